/- use of the program: one row more is used. -/
import Derived.Test.YtlepgkkpopjgoaaGreatZElPro
import Derived.Test.YtlepgkkpopjgoaaGreatZElStep
import Derived.Test.YtlepgkkpopjgoaaGreatZMatSeq
import Derived.Test.YtlepgkkpopjgoaaGreatZElTurn
import Derived.Stop.RegionWithIn
import Derived.Deep.RegionHeld3
namespace Go.Proofs.YtlepgkkpopjgoaaGreat
open Go.RowKit Go.WideShapes Go.ChangeShapes Go.Shelf
set_option linter.unusedVariables false
set_option linter.unusedSimpArgs false
attribute [local go_sem] Oper.semAt_some
theorem boxed_at {w : World} {p r : Nat} {t : TypeId} {v : Value} (h : Boxed w p t v) (e : r = p) : Boxed w r t v := by rw [e]; exact h
theorem boxed_belowU {w w' : World} {p : Nat} {t : TypeId} {v : Value} (h : Boxed w p t v) (hb : Below w.heap.size w w') : Boxed w' p t v := (hb.block p h.lt).trans h
theorem boxed_keptK {w w' : World} {S : Nat → Prop} {p : Nat} {t : TypeId} {v : Value} (h : Boxed w p t v) (hk : Kept S w w') (hn : ¬ S p) : Boxed w' p t v := (hk.block p h.lt hn).trans h
theorem wp_blind {P : Program} {c : Code} {K : Act → World → Prop} {Q : Exit → Act → World → Prop} {a : Act} {w : World} (h : Code.wp P c (Exit.then K (fun _ _ _ => False)) a w) : Code.wp P c (Exit.then K Q) a w :=
  Code.wp_mono (fun e a w h => by cases e <;> first | exact h | exact h.elim) h
theorem grown_drew {w w' : World} {r : Option Nat} (h : w.drew.grownBy w' r) : w.grownBy w' r := ⟨h.os, h.tape, h.output, h.size, h.block⟩
theorem fg_ne {pv : Value} {hh fg s : Nat} {w' : World} (h : ∀ j, pv.ownBlock = some j → j < hh) (hq : pv.ownBlock = some fg ∨ fg = s) (hs : hh + 1 + 1 < s) : fg < hh ∨ hh + 1 + 1 < fg := by
  rcases hq with h9 | h9
  · exact .inl (h fg h9)
  · right; omega
theorem cell_farb {w : World} {p k j o : Nat} (h : k ≠ p) (u : Value) : (w.setCell ⟨p, o, none⟩ u).cell? ⟨k, j, none⟩ = w.cell? ⟨k, j, none⟩ := World.cell?_of_block (a := ⟨k, j, none⟩) (Below.heap_setCell _ ⟨p, o, none⟩ u k h)
theorem range_snoc {R : Nat} {pre : List (RowA R)} {y : RowA R} (h : (pre ++ [y]).map rix = List.range (pre ++ [y]).length) : pre.map rix = List.range pre.length ∧ rix y = pre.length := by
  rw [List.length_append, List.length_singleton, List.range_succ, List.map_append, List.map_singleton] at h
  have h1 := List.append_inj h (by simp)
  exact ⟨h1.1, by simpa using h1.2⟩
theorem rowOf_box {w : World} {b : Nat} {t : TypeId} {x : Bool} {u v : Value} {l : List Int} (h : RowOf iV w v l) (hb : Boxed w b t (.bool x)) : RowOf iV (w.setCell ⟨b, 0, none⟩ u) v l := by
  obtain ⟨a, cap, rfl, h1, h2, h3⟩ := h
  refine ⟨a, cap, rfl, h1, h2, fun i hi => ?_⟩
  obtain ⟨c, o, rfl, hc⟩ := h3 i hi
  refine ⟨c, o, rfl, ?_⟩
  by_cases e : c = b
  · subst e
    exfalso
    have hb' : w.heap[c]? = some (.cells #[.bool x] t (0, 0)) := hb
    unfold World.cell? at hc
    rw [hb'] at hc
    cases hoi : o + i with
    | zero => rw [hoi] at hc; simp [iV] at hc
    | succ m => rw [hoi] at hc; simp [iV] at hc
  · exact (World.cell?_of_block (a := ⟨c, o + i, none⟩) (Below.heap_setCell _ ⟨b, 0, none⟩ u c e)).trans hc
theorem PrS.setB {w : World} {B p b : Nat} {a : Option Addr} {N cap R C : Nat} {e : El} {pv fv : Value} {xs ps : List (Value × Value)} {t : TypeId} {x : Bool} (h : PrS w B p a N cap R C e pv fv xs ps) (hb : Boxed w b t (.bool x)) (h1 : t ≠ 34) (h2 : t ≠ 3) (h3 : t ≠ 79) (u : Value) : PrS (w.setCell ⟨b, 0, none⟩ u) B p a N cap R C e pv fv xs ps := by
  have hb' : w.heap[b]? = some (.cells #[.bool x] t (0, 0)) := hb
  have key : ∀ {s : Nat} {t' : TypeId} {v' : Value} {n : Nat} {l : List Value}, t ≠ t' → w.ownsRow B t' s v' n l → ∀ k, v'.ownBlock = some k → k ≠ b := by
    intro s t' v' n l ht ho k e9 ek
    subst ek
    rcases ho.2 with ⟨rfl, _⟩ | ⟨g1, cap1, cur1, rfl, _, hg1, _⟩
    · simp [Value.ownBlock] at e9
    · have e1 : g1 = k := by simpa [Value.ownBlock] using e9
      subst e1
      rw [hb'] at hg1
      injection hg1 with hg1
      injection hg1 with _ h3 _
      exact ht h3
  have hk := kept_set w b 0 u
  have hV : ∀ k, OnV (.slice a N cap) xs k → k ≠ b := by
    rintro k (e9 | ⟨q, hq, e9⟩)
    · exact key h1 h.S.V.row k e9
    · obtain ⟨i, hi, rfl⟩ := List.getElem_of_mem hq
      have hr := h.S.V.each i (by have := h.S.V.len; omega) hi
      rcases e9 with e9 | e9
      · exact key h2 hr.1 k e9
      · exact key h2 hr.2.1 k e9
  have hpb : p ≠ b := by
    intro e9
    subst e9
    have hd : w.heap[p]? = some (.cells #[.int .i64 (R : Int), .int .i64 (C : Int), .slice a N cap, pv, fv] 79 (0, 0)) := h.D
    rw [hb'] at hd
    injection hd with hd
    injection hd with _ h9 _
    exact h3 h9
  exact ⟨h.D.keptK hk hpb, ⟨h.S.V.kept hk hV, h.S.P.kept hk (key h2 h.S.P), rowV_kept h.S.F hk (key h1 h.S.F), h.S.plen, fun i hi hi' => ⟨rowOf_box (h.S.fr i hi hi').1 hb, rowOf_box (h.S.fr i hi hi').2 hb⟩, fun q hq k e9 => Nat.lt_of_lt_of_le (h.S.lt q hq k e9) hk.size, h.S.vp, h.S.vf, h.S.pf, h.S.qv⟩, h.off, h.hB⟩
theorem wpIn_blind {F : Fence} {n : Nat} {P : Program} {c : Code} {K : Act → World → Prop} {Q : Exit → Act → World → Prop} {a : Act} {w : World} (h : Code.wpIn F n P c (Exit.then K (fun _ _ _ => False)) a w) : Code.wpIn F n P c (Exit.then K Q) a w :=
  Code.wpIn_mono (fun e a w h => by cases e <;> first | exact h | exact h.elim) h
set_option maxRecDepth 200000 in
set_option maxHeartbeats 16000000 in
theorem impl_use (p q N cap B R C i k : Nat) (e : El) (pv fv : Value) (xs ps : List (Value × Value)) (w : World) (h : PrS w B p (some ⟨q, 0, none⟩) N cap R C e pv fv xs ps) (EO : ElOk R C e k) (hN : N = R * C) (hR : R ≤ 24) (hC : C ≤ 24) (hi : i < R) (hn : e.piv.length < R) (hk : k < C) (hp : nilF (e.g i k) = false) (hB : B ≤ w.heap.size) :
    Calls Tryz.prog 140 #[.pointer (some ⟨p, 0, none⟩), .int .i64 (i : Int), .int .i64 (k : Int)] w fun r w' => r = .returned (.bool (fineG R C (useE e i k).g)) ∧ (fineG R C (useE e i k).g = true → ∃ pv' fv' xs' ps', PrS w' B p (some ⟨q, 0, none⟩) N cap R C (useE e i k) pv' fv' xs' ps') ∧ Below B w w' := by
  obtain ⟨ZF, hZF⟩ : ∃ z, z = fineG R C (useE e i k).g := ⟨_, rfl⟩
  rw [← hZF]
  have HZF := Lib.hid hZF
  clear hZF
  have hRC : R * C ≤ 24 * 24 := Nat.mul_le_mul hR hC
  have hN9 : N ≤ 576 := by omega
  have HN := Lib.hid hN
  have HB9 := Lib.hid hB
  have HEO := Lib.hid EO
  have HPV := Lib.hid hp
  have hfl := EO.count
  obtain ⟨n, hn0⟩ : ∃ n, e.piv.length = n := ⟨_, rfl⟩
  have HN0 := Lib.hid hn0
  rw [hn0] at hn
  have hpl := h.D.lt
  have hcap : N ≤ cap ∧ cap ≤ 9223372036854775807 := by
    obtain ⟨a9, c9, e9, z1, z2⟩ := ratsAt_form h.S.V.rats
    injection e9 with e1 e2 e3
    have := h.S.V.count
    omega
  obtain ⟨pa, pc, hpv⟩ := h.S.P.slice
  rw [natV_len, hn0] at hpv
  subst hpv
  obtain ⟨hh, hhh⟩ : ∃ x, x = w.heap.size := ⟨_, rfl⟩
  have HH := Lib.hid hhh
  obtain ⟨W0, hW0⟩ : ∃ x, x = ((w.alloc (.cells #[.int .i64 (k : Int)] 3)).alloc (.cells #[.bool false] 4)).alloc (.cells #[.int .i64 (n : Int)] 3) := ⟨_, rfl⟩
  have b0 : Below w.heap.size w W0 := by rw [hW0]; exact (((Below.refl _ _).alloc (Nat.le_refl _) _).alloc (by simp) _).alloc (by simp; omega) _
  have K5 := Lib.hid (show Boxed W0 hh 3 (.int .i64 (k : Int)) by rw [hW0, hhh]; exact ((Boxed.new _ _ _).alloc _).alloc _)
  have K6 := Lib.hid (show Boxed W0 (hh + 1) 4 (.bool false) by rw [hW0, hhh]; exact boxed_at ((Boxed.new _ _ _).alloc _) (by simp))
  have K7 := Lib.hid (show Boxed W0 (hh + 1 + 1) 3 (.int .i64 (n : Int)) by rw [hW0, hhh]; exact boxed_at (Boxed.new _ _ _) (by simp))
  have P0 := Lib.hid (h.below b0)
  have BB0 := Lib.hid (b0.mono hB)
  have hs0 : W0.heap.size = hh + 1 + 1 + 1 := by rw [hW0, hhh]; simp
  have HW := Lib.hid hW0.symm
  have d3 := h.D.c3
  have d3' := ((h.below ((Below.refl _ _).alloc (Nat.le_refl _) (.cells #[.int .i64 (k : Int)] 3))).below ((Below.refl _ _).alloc (Nat.le_refl _) (.cells #[.bool false] 4))).D.c3
  have hp9 : p < hh := by omega
  have hqh : q < hh := by rw [hhh]; exact (h.S.V.lt q (.inl rfl)).2
  have FVL := Lib.hid (show ∀ j, fv.ownBlock = some j → j < hh from fun j hj => by rw [hhh]; exact h.S.lt_all j (.inr (.inr (.inl hj))))
  have PVL := Lib.hid (show ∀ j, (Value.slice pa n pc).ownBlock = some j → j < hh from fun j hj => by rw [hhh]; exact h.S.lt_all j (.inr (.inl hj)))
  have hB' : B ≤ hh := by omega
  clear h EO hp hN hRC hW0 hn0 hB hpl b0 d3 hhh
  refine (callsIn_wide (n := 3)).1 ?_
  refine callsIn_of_wp_marks Tryz.func140 rfl trivial ?_ rfl
  simp only [Tryz.ntmps140, List.size_toArray, List.length_cons, List.length_nil, Nat.reduceAdd, Nat.reduceSub, Array.replicate_succ, Array.replicate_zero, List.push_toArray, List.append_toArray, List.nil_append, List.cons_append]
  refine wpIn_wide.2 ?_
  go_upto_region 2 with (rw [HW.out])
  rw [← HH.out]
  have DH := Lib.hid (fun W (hW : Below W0.heap.size W0 W) => P0.out.D.below hW)
  have TS0 := Lib.hid (show (ElS (W0.alloc (.cells #[.int .i64 (k : Int)] 3)) B (.slice (some ⟨q, 0, none⟩) N cap) R C e (.slice pa n pc) fv xs ps ∧ B ≤ (W0.alloc (.cells #[.int .i64 (k : Int)] 3)).heap.size ∧ (∀ j y, [Value.int .i64 (k : Int)][j]? = some y → (W0.alloc (.cells #[.int .i64 (k : Int)] 3)).cell? ((⟨hh + 1 + 1 + 1, 0, none⟩ : Addr).add j) = some y) ∧ B5 (W0.alloc (.cells #[.int .i64 (k : Int)] 3)) p 79 (.int .i64 (R : Int)) (.int .i64 (C : Int)) (.slice (some ⟨q, 0, none⟩) N cap) (.slice pa n pc) fv) from ⟨P0.out.S.alloc _, by simp; omega, by rw [← hs0]; exact cell_one_new _ _ _, P0.out.D.alloc _⟩)
  have TS1 := Lib.hid (show (ElS (W0.alloc (.cells #[.int .i64 (k : Int)] 3)).drew B (.slice (some ⟨q, 0, none⟩) N cap) R C e (.slice pa n pc) fv xs ps ∧ B ≤ (W0.alloc (.cells #[.int .i64 (k : Int)] 3)).drew.heap.size ∧ (∀ j y, [Value.int .i64 (k : Int)][j]? = some y → (W0.alloc (.cells #[.int .i64 (k : Int)] 3)).drew.cell? ((⟨hh + 1 + 1 + 1, 0, none⟩ : Addr).add j) = some y) ∧ B5 (W0.alloc (.cells #[.int .i64 (k : Int)] 3)).drew p 79 (.int .i64 (R : Int)) (.int .i64 (C : Int)) (.slice (some ⟨q, 0, none⟩) N cap) (.slice pa n pc) fv) from ⟨TS0.out.1.drew, TS0.out.2.1, TS0.out.2.2.1, TS0.out.2.2.2.drew⟩)
  have HPL := Lib.hid (show e.piv.length ≤ 100000 by rw [HN0.out]; omega)
  have OFP := Lib.hid (fun e9 => P0.out.off p (.inr (.inl e9)) rfl)
  have k5 := K5.out.cell
  have s3 := P0.out.D.c3
  have s4 := P0.out.D.f 3
  clear d3'
  have d3a := TS0.out.2.2.2.c3
  have K5a := (K5.out.alloc (.cells #[.int .i64 (k : Int)] 3)).cell
  go_cut [] from 19 (fun wc => (∃ fg fn fc, (fg < hh ∨ hh + 1 + 1 < fg) ∧ Hid (PrS wc B p (some ⟨q, 0, none⟩) N cap R C ⟨e.g, e.piv ++ [k], e.fac⟩ (.slice (some ⟨fg, 0, none⟩) fn fc) fv xs ps)) ∧ Hid (Boxed wc hh 3 (.int .i64 (k : Int))) ∧ Hid (Boxed wc (hh + 1) 4 (.bool false)) ∧ Hid (Boxed wc (hh + 1 + 1) 3 (.int .i64 (n : Int))) ∧ Hid (Below B w wc) ∧ hh + 1 + 1 < wc.heap.size)
  case first =>
    refine wp_blind ?_
    go_region_law (first
      | (refine step_append_piv rfl _ _ rfl rfl TS1.out.1 HPL.out TS1.out.2.1 _ k rfl TS1.out.2.2.1 ?_; intro fg fn fc w_n S_n g_d q_d; have g_n : (W0.alloc (.cells #[.int .i64 (k : Int)] 3)).grownBy w_n (Value.slice pa n pc).ownBlock := grown_drew g_d; have q_n : (Value.slice pa n pc).ownBlock = some fg ∨ fg = (W0.alloc (.cells #[.int .i64 (k : Int)] 3)).heap.size := q_d; clear g_d q_d; have D5 := (TS0.out.2.2.2).keptK (Kept.of_grown g_n) OFP.out; have s3 := D5.c3; have s4 := D5.f 3)
      | (refine step_append_piv rfl _ _ rfl rfl TS0.out.1 HPL.out TS0.out.2.1 _ k rfl TS0.out.2.2.1 ?_; intro fg fn fc w_n S_n g_d q_d; have g_n : (W0.alloc (.cells #[.int .i64 (k : Int)] 3)).grownBy w_n (Value.slice pa n pc).ownBlock := g_d; have q_n : (Value.slice pa n pc).ownBlock = some fg ∨ fg = (W0.alloc (.cells #[.int .i64 (k : Int)] 3)).heap.size := q_d; clear g_d q_d; have D5 := (TS0.out.2.2.2).keptK (Kept.of_grown g_n) OFP.out; have s3 := D5.c3; have s4 := D5.f 3)
      | fail)
    all_goals (have hbt := (show Below W0.heap.size W0 (W0.alloc (.cells #[.int .i64 (k : Int)] 3)) from (Below.refl _ _).alloc (Nat.le_refl _) _))
    all_goals (have KT := (Kept.of_below (S := fun j => j = p ∨ (Value.slice pa n pc).ownBlock = some j) hbt).trans (((Kept.of_grown g_n).mono (fun j e => .inr e)).trans ((kept_set w_n p 3 (.slice (some ⟨fg, 0, none⟩) fn fc)).mono (fun j e => .inl e))))
    all_goals (have hfg := fg_ne (w' := w) PVL.out q_n (by simp; omega))
    all_goals (have hfp : fg ≠ p := by
      { rcases q_n with h9 | h9
        · exact P0.out.off fg (.inr (.inl h9))
        · simp at h9; omega })
    all_goals (have PF := Lib.hid (P0.out.addedP S_n D5 hfp))
    all_goals (have X5 := Lib.hid (boxed_keptK K5.out KT (fun e9 => e9.elim (fun h9 => by omega) (fun h9 => by have := PVL.out _ h9; omega))))
    all_goals (have X6 := Lib.hid (boxed_keptK K6.out KT (fun e9 => e9.elim (fun h9 => by omega) (fun h9 => by have := PVL.out _ h9; omega))))
    all_goals (have X7 := Lib.hid (boxed_keptK K7.out KT (fun e9 => e9.elim (fun h9 => by omega) (fun h9 => by have := PVL.out _ h9; omega))))
    all_goals (have BF := Lib.hid (((BB0.out.alloc (by omega) (.cells #[.int .i64 (k : Int)] 3)).grown g_n (by simp; omega) (fun b hb => (P0.out.S.P.lt b hb).1)).setCell (p := ⟨p, 3, none⟩) P0.out.hB (.slice (some ⟨fg, 0, none⟩) fn fc)))
    all_goals (have hsz := KT.size)
    all_goals clear S_n D5 g_n q_n KT hbt s3 s4
    all_goals go_wp2
    all_goals go_meet
    all_goals exact ⟨⟨fg, fn, fc, hfg, PF⟩, X5, X6, X7, BF, by omega⟩
  obtain ⟨⟨fg, fn, fc, hfg, P1⟩, Q5, Q6, Q7, BB1, hsz1⟩ := hcut
  clear TS0 TS1 P0 K5 K6 K7 BB0 k5 s3 s4 d3a K5a DH HW OFP
  have k7 := Q7.out.cell
  have HEX := Lib.hid (impl_exchange p q N cap B R C i n ⟨e.g, e.piv ++ [k], e.fac⟩ _ fv xs ps wc P1.out HN.out hR hC (by omega) hi hn (by have := BB1.out.size; omega) (by show e.fac.length ≤ 1000; omega))
  obtain ⟨FX, hFX⟩ : ∃ x, x = e.fac ++ (if i = n then [] else [m1F]) := ⟨_, rfl⟩
  have HFX := Lib.hid hFX
  clear hFX P1
  go_wp2_with fail
  refine (HEX.out).mono ?_
  rintro ee w3 ⟨⟨vv, rfl⟩, ⟨fv3, xs3, ps3, P3', F3⟩, K3, B3'⟩
  have P3 := Lib.hid (show PrS w3 B p (some ⟨q, 0, none⟩) N cap R C ⟨exG e.g i n, e.piv ++ [k], FX⟩ (.slice (some ⟨fg, 0, none⟩) fn fc) fv3 xs3 ps3 by rw [HFX.out]; exact P3')
  have FV3 := Lib.hid (show ∀ j, fv3.ownBlock = some j → j < hh ∨ hh + 1 + 1 < j from fun j hj => by
    rcases F3 j hj with h9 | h9
    · exact .inl (FVL.out j h9)
    · right; omega)
  have R5 := Lib.hid (boxed_keptK Q5.out K3 (fun e9 => e9.elim (fun h9 => by omega) (fun e8 => e8.elim (fun h9 => by omega) (fun h9 => by have := FVL.out _ h9; omega))))
  have R6 := Lib.hid (boxed_keptK Q6.out K3 (fun e9 => e9.elim (fun h9 => by omega) (fun e8 => e8.elim (fun h9 => by omega) (fun h9 => by have := FVL.out _ h9; omega))))
  have R7 := Lib.hid (boxed_keptK Q7.out K3 (fun e9 => e9.elim (fun h9 => by omega) (fun e8 => e8.elim (fun h9 => by omega) (fun h9 => by have := FVL.out _ h9; omega))))
  have BB3 := Lib.hid (BB1.out.trans B3')
  have hsz3 : hh + 1 + 1 < w3.heap.size := by have := K3.size; omega
  clear P3' F3 K3 B3' Q5 Q6 Q7 BB1 hsz1 k7 HEX hfg
  -- the used row from its pivot on
  have hn9 := row_in (C := C) hn
  have hRC9 : R * C = N := HN.out.symm
  obtain ⟨l, hl⟩ : ∃ l, n * C * 3 = l := ⟨_, rfl⟩
  have HROW := Lib.hid (fun W (hW : Below w3.heap.size w3 W) => (impl_row (R : Int) C n N (some ⟨q, 0, none⟩) cap W (by omega) hN9 hC (by omega) hcap.1 hcap.2).mono (R' := fun e w' => e = .returned (.slice (some ⟨q, l, none⟩) C C) ∧ Below W.heap.size W w' ∧ Below w3.heap.size w3 w') (fun e w' ⟨he, hb⟩ => ⟨by rw [he, rowV_some (by omega), Nat.zero_add, hl], hb, hW.trans (hb.mono hW.size)⟩))
  obtain ⟨o3, ho3⟩ : ∃ o, l + k * 3 = o := ⟨_, rfl⟩
  have HO3 := Lib.hid (show (n * C + k) * 3 = o3 by rw [← ho3, ← hl]; omega)
  obtain ⟨m, hm⟩ : ∃ m, C - k = m := ⟨_, rfl⟩
  have HM := Lib.hid hm
  have hm0 : 0 < m := by omega
  have HS := Lib.hid (show ∀ W : World, Below w3.heap.size w3 W → (W.cell? ⟨p, 0, none⟩ = some (.int .i64 (R : Int)) ∧ W.cell? ⟨p, 1, none⟩ = some (.int .i64 (C : Int)) ∧ W.cell? ⟨p, 2, none⟩ = some (.slice (some ⟨q, 0, none⟩) N cap) ∧ W.cell? ⟨hh, 0, none⟩ = some (.int .i64 (k : Int)) ∧ W.cell? ⟨hh + 1 + 1, 0, none⟩ = some (.int .i64 (n : Int))) from fun W hW => ⟨(P3.out.D.below hW).c0, (P3.out.D.below hW).c1, (P3.out.D.below hW).c2, (boxed_belowU R5.out hW).cell, (boxed_belowU R7.out hW).cell⟩)
  have d0 := P3.out.D.c0
  have d1 := P3.out.D.c1
  have d2 := P3.out.D.c2
  have k5 := R5.out.cell
  have k7 := R7.out.cell
  have hkC : (k : Int) ≤ (C : Int) := by omega
  have hkC2 : ¬ C = k := by omega
  have hk0 : (0 : Int) ≤ (k : Int) := by omega
  clear hl hn9 hRC9
  go_upto_region 4 with fail
  go_cut [8] from 33 (fun q8 wc => ∃ p8 : Nat, q8 = .pointer (some ⟨p8, 0, none⟩) ∧ hh + 1 + 1 < p8 ∧ w3.heap.size ≤ p8 ∧ Hid (Boxed wc p8 23 (.slice (some ⟨q, o3, none⟩) m m)) ∧ Hid (PrS wc B p (some ⟨q, 0, none⟩) N cap R C ⟨exG e.g i n, e.piv ++ [k], FX⟩ (.slice (some ⟨fg, 0, none⟩) fn fc) fv3 xs3 ps3) ∧ Hid (Boxed wc hh 3 (.int .i64 (k : Int))) ∧ Hid (Boxed wc (hh + 1) 4 (.bool false)) ∧ Hid (Boxed wc (hh + 1 + 1) 3 (.int .i64 (n : Int))) ∧ Hid (Below B w wc))
  case first =>
    refine wp_blind ?_
    go_region_held3 (fun w' => w'.cell? ⟨p, 0, none⟩ = some (.int .i64 (R : Int)) ∧ w'.cell? ⟨p, 1, none⟩ = some (.int .i64 (C : Int)) ∧ w'.cell? ⟨p, 2, none⟩ = some (.slice (some ⟨q, 0, none⟩) N cap) ∧ w'.cell? ⟨hh, 0, none⟩ = some (.int .i64 (k : Int)) ∧ w'.cell? ⟨hh + 1 + 1, 0, none⟩ = some (.int .i64 (n : Int)))
      (first | exact HS.out _ (by first | with_reducible exact Below.refl _ _ | with_reducible exact (Below.refl _ _).drew | with_reducible exact bb_a | with_reducible exact bb_b | with_reducible exact bb_m | with_reducible exact bb_s | with_reducible exact bb_d | with_reducible exact (Below.refl _ _).alloc (Nat.le_refl _) _ | with_reducible exact ((Below.refl _ _).alloc (Nat.le_refl _) _).drew | with_reducible exact bb_a.alloc bb_a.size _ | fail) | exact ⟨(cell_farb (show p ≠ w3.heap.size from by omega) _).trans ((HS.out _ (by first | with_reducible exact Below.refl _ _ | with_reducible exact (Below.refl _ _).drew | with_reducible exact bb_a | with_reducible exact bb_b | with_reducible exact bb_m | with_reducible exact bb_s | with_reducible exact bb_d | with_reducible exact (Below.refl _ _).alloc (Nat.le_refl _) _ | with_reducible exact ((Below.refl _ _).alloc (Nat.le_refl _) _).drew | with_reducible exact bb_a.alloc bb_a.size _ | fail)).1), (cell_farb (show p ≠ w3.heap.size from by omega) _).trans ((HS.out _ (by first | with_reducible exact Below.refl _ _ | with_reducible exact (Below.refl _ _).drew | with_reducible exact bb_a | with_reducible exact bb_b | with_reducible exact bb_m | with_reducible exact bb_s | with_reducible exact bb_d | with_reducible exact (Below.refl _ _).alloc (Nat.le_refl _) _ | with_reducible exact ((Below.refl _ _).alloc (Nat.le_refl _) _).drew | with_reducible exact bb_a.alloc bb_a.size _ | fail)).2.1), (cell_farb (show p ≠ w3.heap.size from by omega) _).trans ((HS.out _ (by first | with_reducible exact Below.refl _ _ | with_reducible exact (Below.refl _ _).drew | with_reducible exact bb_a | with_reducible exact bb_b | with_reducible exact bb_m | with_reducible exact bb_s | with_reducible exact bb_d | with_reducible exact (Below.refl _ _).alloc (Nat.le_refl _) _ | with_reducible exact ((Below.refl _ _).alloc (Nat.le_refl _) _).drew | with_reducible exact bb_a.alloc bb_a.size _ | fail)).2.2.1), (cell_farb (show hh ≠ w3.heap.size from by omega) _).trans ((HS.out _ (by first | with_reducible exact Below.refl _ _ | with_reducible exact (Below.refl _ _).drew | with_reducible exact bb_a | with_reducible exact bb_b | with_reducible exact bb_m | with_reducible exact bb_s | with_reducible exact bb_d | with_reducible exact (Below.refl _ _).alloc (Nat.le_refl _) _ | with_reducible exact ((Below.refl _ _).alloc (Nat.le_refl _) _).drew | with_reducible exact bb_a.alloc bb_a.size _ | fail)).2.2.2.1), (cell_farb (show hh + 1 + 1 ≠ w3.heap.size from by omega) _).trans ((HS.out _ (by first | with_reducible exact Below.refl _ _ | with_reducible exact (Below.refl _ _).drew | with_reducible exact bb_a | with_reducible exact bb_b | with_reducible exact bb_m | with_reducible exact bb_s | with_reducible exact bb_d | with_reducible exact (Below.refl _ _).alloc (Nat.le_refl _) _ | with_reducible exact ((Below.refl _ _).alloc (Nat.le_refl _) _).drew | with_reducible exact bb_a.alloc bb_a.size _ | fail)).2.2.2.2)⟩)
      (first
        | (go_at_call 75; refine (HROW.out _ (by first | with_reducible exact Below.refl _ _ | with_reducible exact (Below.refl _ _).drew | with_reducible exact bb_a | with_reducible exact bb_b | with_reducible exact bb_m | with_reducible exact bb_s | with_reducible exact bb_d | with_reducible exact (Below.refl _ _).alloc (Nat.le_refl _) _ | with_reducible exact ((Below.refl _ _).alloc (Nat.le_refl _) _).drew | with_reducible exact bb_a.alloc bb_a.size _ | fail)).mono ?_; rintro ee w_a ⟨rfl, bw_a, bb_a⟩; (try first | (have dz := boxed_belowU (show Boxed (w3.alloc (.cells #[.slice none 0 0] 23)).drew w3.heap.size 23 (.slice none 0 0) from Boxed.new _ _ _) bw_a; have z0 := dz.cell; have z1 := dz.frozen))))
    all_goals clear d0 d1 d2 k5 k7
    all_goals go_wp2
    all_goals go_meet
    all_goals (first
      | exact ⟨w_a.heap.size, rfl, by have := bb_a.size; omega, bb_a.size, Lib.hid (Boxed.new _ _ _), Lib.hid (P3.out.below (bb_a.alloc bb_a.size _)), Lib.hid (boxed_belowU R5.out (bb_a.alloc bb_a.size _)), Lib.hid (boxed_belowU R6.out (bb_a.alloc bb_a.size _)), Lib.hid (boxed_belowU R7.out (bb_a.alloc bb_a.size _)), Lib.hid (BB3.out.trans ((bb_a.alloc bb_a.size _).mono (by omega)))⟩
      | exact ⟨w3.heap.size, rfl, by omega, Nat.le_refl _, Lib.hid (dz.set _), Lib.hid (P3.out.below (bb_a.setCell (p := ⟨w3.heap.size, 0, none⟩) (Nat.le_refl _) _)), Lib.hid (boxed_belowU R5.out (bb_a.setCell (p := ⟨w3.heap.size, 0, none⟩) (Nat.le_refl _) _)), Lib.hid (boxed_belowU R6.out (bb_a.setCell (p := ⟨w3.heap.size, 0, none⟩) (Nat.le_refl _) _)), Lib.hid (boxed_belowU R7.out (bb_a.setCell (p := ⟨w3.heap.size, 0, none⟩) (Nat.le_refl _) _)), Lib.hid (BB3.out.trans ((bb_a.setCell (p := ⟨w3.heap.size, 0, none⟩) (Nat.le_refl _) _).mono (by omega)))⟩)
  obtain ⟨p8, rfl, hp8, hp8w, Q8, P4, Q5, Q6, Q7, BB4⟩ := hcut
  have FV8 := Lib.hid (show ∀ j, fv3.ownBlock = some j → j < p8 from fun j hj => by have := P3.out.S.lt_all j (.inr (.inr (.inl hj))); omega)
  clear hp8w
  clear P3 R5 R6 R7 BB3 HROW HS d0 d1 d2 k5 k7 hkC hkC2 hk0 hsz3 ho3
  -- the divisor
  obtain ⟨f, hf⟩ : ∃ f, f = e.g i k := ⟨_, rfl⟩
  have HF := Lib.hid hf
  have HFK := Lib.hid (show okF f = true by rw [hf]; exact HEO.out.ok i k hi hk)
  have HFN := Lib.hid (show nilF f = false by rw [hf]; exact HPV.out)
  have HEG := Lib.hid (show exG e.g i n n k = f by rw [ex_at, hf])
  obtain ⟨a3, r3, a4, r4, hc3, hr3, hp3, ho9⟩ := elem_at P4.out.S.V' HN.out hn hk
  rw [HEG.out] at hc3 hr3 hp3 ho9
  rw [HO3.out] at hc3
  obtain ⟨hj9, hp3⟩ := hp3
  have HE3 := P4.out.S.elem hj9
  rw [hp3] at HE3
  have HE3 := Lib.hid HE3
  have HBP := Lib.hid (fun b hb => P4.out.off b (.inl (ho9 b hb).2))
  have HBQ := Lib.hid (fun b hb => (ho9 b hb).1)
  have k8 := Q8.out.cell
  have s0 := hc3.1
  have s1 := hc3.2.1
  have s2 := hc3.2.2
  have hm0' : (0 : Int) < (m : Int) := by omega
  have hwl := Q8.out.lt
  have hpw := P4.out.D.lt
  obtain ⟨W5, hW5⟩ : ∃ x, x = wc.alloc (.cells #[.bool f.neg, .slice a3 f.mag.length r3, .slice a4 f.den.length r4] 34) := ⟨_, rfl⟩
  have b5 := (show Below wc.heap.size wc W5 by rw [hW5]; exact (Below.refl _ _).alloc (Nat.le_refl _) _)
  obtain ⟨p9, hp9'⟩ : ∃ x, x = wc.heap.size := ⟨_, rfl⟩
  have F9 := Lib.hid (show B3 W5 p9 34 (.bool f.neg) (.slice a3 f.mag.length r3) (.slice a4 f.den.length r4) by rw [hW5, hp9']; exact B3.new _ _ _ _ _)
  have P5 := Lib.hid (P4.out.below b5)
  have R5 := Lib.hid (boxed_belowU Q5.out b5)
  have R6 := Lib.hid (boxed_belowU Q6.out b5)
  have R7 := Lib.hid (boxed_belowU Q7.out b5)
  have R8 := Lib.hid (boxed_belowU Q8.out b5)
  have RF := Lib.hid (hr3.below b5)
  have BB5 := Lib.hid (BB4.out.trans (b5.mono (by have := BB4.out.size; have := HB9.out; omega)))
  have HE5 := Lib.hid (fun b hb => (⟨Nat.lt_of_lt_of_le (HE3.out b hb).1 b5.size, (HE3.out b hb).2⟩ : b < W5.heap.size ∧ _))
  have hs5 : W5.heap.size = p9 + 1 := by rw [hW5, hp9']; simp
  have hp89 : p8 < p9 := by omega
  have hpp9 : p < p9 := by omega
  have hqp9 : q < p9 := by have := hqh; omega
  have HW := Lib.hid hW5.symm
  have HP9 := Lib.hid hp9'.symm
  have FV5 := Lib.hid (show ∀ j, fv3.ownBlock = some j → j < p9 from fun j hj => by rw [hp9']; exact P4.out.S.lt_all j (.inr (.inr (.inl hj))))
  clear hf hc3 hr3 hp3 ho9 hj9 hW5 b5 hp9' HE3 P4 Q5 Q6 Q7 Q8 BB4 hwl hpw
  go_upto_region 6 with fail
  rw [HW.out, HP9.out]
  clear k8 s0 s1 s2 HW HP9
  have ba6 := (Below.refl W5.heap.size W5).alloc (Nat.le_refl _) (.cells #[.bool f.neg, .slice a3 f.mag.length r3, .slice a4 f.den.length r4] 34)
  have TS0 := Lib.hid (show (ElS (W5.alloc (.cells #[.bool f.neg, .slice a3 f.mag.length r3, .slice a4 f.den.length r4] 34)) B (.slice (some ⟨q, 0, none⟩) N cap) R C ⟨exG e.g i n, e.piv ++ [k], FX⟩ (.slice (some ⟨fg, 0, none⟩) fn fc) fv3 xs3 ps3 ∧ B ≤ (W5.alloc (.cells #[.bool f.neg, .slice a3 f.mag.length r3, .slice a4 f.den.length r4] 34)).heap.size ∧ (W5.alloc (.cells #[.bool f.neg, .slice a3 f.mag.length r3, .slice a4 f.den.length r4] 34)).heap[p9 + 1]? = some (.cells #[.bool f.neg, .slice a3 f.mag.length r3, .slice a4 f.den.length r4] 34 (0, 0)) ∧ RowR (W5.alloc (.cells #[.bool f.neg, .slice a3 f.mag.length r3, .slice a4 f.den.length r4] 34)) (.slice a3 f.mag.length r3) f.mag (.slice a4 f.den.length r4) f.den ∧ (∀ b, ((Value.slice a3 f.mag.length r3).ownBlock = some b ∨ (Value.slice a4 f.den.length r4).ownBlock = some b) → b < (W5.alloc (.cells #[.bool f.neg, .slice a3 f.mag.length r3, .slice a4 f.den.length r4] 34)).heap.size ∧ (Value.slice (some ⟨q, 0, none⟩) N cap).ownBlock ≠ some b ∧ (Value.slice (some ⟨fg, 0, none⟩) fn fc).ownBlock ≠ some b ∧ fv3.ownBlock ≠ some b) ∧ B5 (W5.alloc (.cells #[.bool f.neg, .slice a3 f.mag.length r3, .slice a4 f.den.length r4] 34)) p 79 (.int .i64 (R : Int)) (.int .i64 (C : Int)) (.slice (some ⟨q, 0, none⟩) N cap) (.slice (some ⟨fg, 0, none⟩) fn fc) fv3) from
    ⟨P5.out.S.alloc _, by have := P5.out.hB; simp; omega, by rw [← hs5]; exact World.alloc_heap_new _ _, RF.out.below ba6, fun b hb => ⟨Nat.lt_of_lt_of_le (HE5.out b hb).1 ba6.size, (HE5.out b hb).2⟩, P5.out.D.alloc _⟩)
  have TS1 := Lib.hid (show (ElS (W5.alloc (.cells #[.bool f.neg, .slice a3 f.mag.length r3, .slice a4 f.den.length r4] 34)).drew B (.slice (some ⟨q, 0, none⟩) N cap) R C ⟨exG e.g i n, e.piv ++ [k], FX⟩ (.slice (some ⟨fg, 0, none⟩) fn fc) fv3 xs3 ps3 ∧ B ≤ (W5.alloc (.cells #[.bool f.neg, .slice a3 f.mag.length r3, .slice a4 f.den.length r4] 34)).drew.heap.size ∧ (W5.alloc (.cells #[.bool f.neg, .slice a3 f.mag.length r3, .slice a4 f.den.length r4] 34)).drew.heap[p9 + 1]? = some (.cells #[.bool f.neg, .slice a3 f.mag.length r3, .slice a4 f.den.length r4] 34 (0, 0)) ∧ RowR (W5.alloc (.cells #[.bool f.neg, .slice a3 f.mag.length r3, .slice a4 f.den.length r4] 34)).drew (.slice a3 f.mag.length r3) f.mag (.slice a4 f.den.length r4) f.den) from ⟨TS0.out.1.drew, TS0.out.2.1, TS0.out.2.2.1, TS0.out.2.2.2.1⟩)
  have HFL := Lib.hid (show FX.length ≤ 100000 by
    rw [HFX.out, List.length_append]
    have h9 : (if i = n then ([] : List Fr) else [m1F]).length ≤ 1 := by
      by_cases h8 : i = n
      · rw [if_pos h8]; exact Nat.zero_le _
      · rw [if_neg h8]; exact Nat.le_refl _
    omega)
  have OFF4 := Lib.hid (fun e9 => P5.out.off p (.inr (.inr (.inl e9))) rfl)
  have f0 := F9.out.c0
  have f1 := F9.out.c1
  have f2 := F9.out.c2
  have s4 := P5.out.D.c4
  have s5 := P5.out.D.f 4
  have F9a := F9.out.alloc (.cells #[.bool f.neg, .slice a3 f.mag.length r3, .slice a4 f.den.length r4] 34)
  have g0 := F9a.c0
  have g1 := F9a.c1
  have g2 := F9a.c2
  have d4a := TS0.out.2.2.2.2.2.c4
  clear ba6
  go_cut [] from 44 (fun wc => (∃ fg4 fn4 fc4, (fg4 < hh ∨ hh + 1 + 1 < fg4) ∧ Hid (PrS wc B p (some ⟨q, 0, none⟩) N cap R C ⟨exG e.g i n, e.piv ++ [k], FX ++ [f]⟩ (.slice (some ⟨fg, 0, none⟩) fn fc) (.slice (some ⟨fg4, 0, none⟩) fn4 fc4) xs3 (ps3 ++ [(.slice a3 f.mag.length r3, .slice a4 f.den.length r4)]))) ∧ Hid (Boxed wc hh 3 (.int .i64 (k : Int))) ∧ Hid (Boxed wc (hh + 1) 4 (.bool false)) ∧ Hid (Boxed wc (hh + 1 + 1) 3 (.int .i64 (n : Int))) ∧ Hid (Boxed wc p8 23 (.slice (some ⟨q, o3, none⟩) m m)) ∧ Hid (B3 wc p9 34 (.bool f.neg) (.slice a3 f.mag.length r3) (.slice a4 f.den.length r4)) ∧ Hid (RowR wc (.slice a3 f.mag.length r3) f.mag (.slice a4 f.den.length r4) f.den) ∧ Hid (Below B w wc))
  case first =>
    refine wp_blind ?_
    go_region_law (first
      | (refine step_append_fac rfl _ _ rfl rfl TS1.out.1 HFL.out TS1.out.2.1 _ _ rfl f _ _ _ _ _ _ TS1.out.2.2.1 TS1.out.2.2.2 TS0.out.2.2.2.2.1 ?_; intro fg4 fn4 fc4 w_n S_n g_d q_d; have g_n : (W5.alloc (.cells #[.bool f.neg, .slice a3 f.mag.length r3, .slice a4 f.den.length r4] 34)).grownBy w_n fv3.ownBlock := grown_drew g_d; have q_n : fv3.ownBlock = some fg4 ∨ fg4 = (W5.alloc (.cells #[.bool f.neg, .slice a3 f.mag.length r3, .slice a4 f.den.length r4] 34)).heap.size := q_d; clear g_d q_d; have D5 := (TS0.out.2.2.2.2.2).keptK (Kept.of_grown g_n) OFF4.out; have s4 := D5.c4; have s5 := D5.f 4)
      | (refine step_append_fac rfl _ _ rfl rfl TS0.out.1 HFL.out TS0.out.2.1 _ _ rfl f _ _ _ _ _ _ TS0.out.2.2.1 TS0.out.2.2.2.1 TS0.out.2.2.2.2.1 ?_; intro fg4 fn4 fc4 w_n S_n g_d q_d; have g_n : (W5.alloc (.cells #[.bool f.neg, .slice a3 f.mag.length r3, .slice a4 f.den.length r4] 34)).grownBy w_n fv3.ownBlock := g_d; have q_n : fv3.ownBlock = some fg4 ∨ fg4 = (W5.alloc (.cells #[.bool f.neg, .slice a3 f.mag.length r3, .slice a4 f.den.length r4] 34)).heap.size := q_d; clear g_d q_d; have D5 := (TS0.out.2.2.2.2.2).keptK (Kept.of_grown g_n) OFF4.out; have s4 := D5.c4; have s5 := D5.f 4)
      | fail)
    all_goals (have hbt := (show Below W5.heap.size W5 (W5.alloc (.cells #[.bool f.neg, .slice a3 f.mag.length r3, .slice a4 f.den.length r4] 34)) from (Below.refl _ _).alloc (Nat.le_refl _) _))
    all_goals (have KT := (Kept.of_below (S := fun j => j = p ∨ fv3.ownBlock = some j) hbt).trans (((Kept.of_grown g_n).mono (fun j e => .inr e)).trans ((kept_set w_n p 4 (.slice (some ⟨fg4, 0, none⟩) fn4 fc4)).mono (fun j e => .inl e))))
    all_goals (have hf4 : fg4 < hh ∨ hh + 1 + 1 < fg4 := by
      { rcases q_n with h9 | h9
        · exact FV3.out fg4 h9
        · right; simp at h9; omega })
    all_goals (have hfp : fg4 ≠ p := by
      { rcases q_n with h9 | h9
        · exact P5.out.off fg4 (.inr (.inr (.inl h9)))
        · simp at h9; omega })
    all_goals (have PF := Lib.hid (P5.out.addedF S_n D5 hfp (fun b hb => HBP.out b hb)))
    all_goals (have X5 := Lib.hid (boxed_keptK R5.out KT (fun e9 => e9.elim (fun h9 => by omega) (fun h9 => by have := FV3.out _ h9; omega))))
    all_goals (have X6 := Lib.hid (boxed_keptK R6.out KT (fun e9 => e9.elim (fun h9 => by omega) (fun h9 => by have := FV3.out _ h9; omega))))
    all_goals (have X7 := Lib.hid (boxed_keptK R7.out KT (fun e9 => e9.elim (fun h9 => by omega) (fun h9 => by have := FV3.out _ h9; omega))))
    all_goals (have X8 := Lib.hid (boxed_keptK R8.out KT (fun e9 => e9.elim (fun h9 => by omega) (fun h9 => by have := FV8.out _ h9; omega))))
    all_goals (have X9 := Lib.hid (F9.out.keptK KT (fun e9 => e9.elim (fun h9 => by omega) (fun h9 => by have := FV5.out _ h9; omega))))
    all_goals (have XR := Lib.hid (RF.out.keptS KT (fun b hb e9 => e9.elim (fun h9 => HBP.out b hb h9) (fun h9 => (HE5.out b hb).2.2.2 h9))))
    all_goals (have hB5 : B ≤ W5.heap.size := by have := P5.out.hB; omega)
    all_goals (have BF := Lib.hid (((BB5.out.alloc hB5 (.cells #[.bool f.neg, .slice a3 f.mag.length r3, .slice a4 f.den.length r4] 34)).grown g_n (by simp; omega) (fun b hb => (P5.out.S.F.lt b hb).1)).setCell (p := ⟨p, 4, none⟩) P5.out.hB (.slice (some ⟨fg4, 0, none⟩) fn4 fc4)))
    all_goals clear S_n D5 g_n q_n KT hbt s4 s5 f0 f1 f2 g0 g1 g2 d4a
    all_goals go_wp2
    all_goals go_meet
    all_goals exact ⟨⟨fg4, fn4, fc4, hf4, PF⟩, X5, X6, X7, X8, X9, XR, BF⟩
  obtain ⟨⟨fg4, fn4, fc4, hf4, P6⟩, Q5, Q6, Q7, Q8, F6, RF6, BB6⟩ := hcut
  clear TS0 TS1 P5 R5 R6 R7 R8 F9 RF BB5 f0 f1 f2 s4 s5 g0 g1 g2 d4a F9a HFL OFF4 HE5 hs5
  -- the quotients
  have HOKG := Lib.hid (HEO.out.ok.ex hi hn)
  have HFNG := Lib.hid (show nilF (exG e.g i n n k) = false by rw [HEG.out]; exact HFN.out)
  obtain ⟨Lu, hLu⟩ : ∃ x, x = partL (tabM R C (exG e.g i n)) (n * C + k) (C - k) := ⟨_, rfl⟩
  have HLU := Lib.hid hLu
  have hlu : Lu.length = m := by rw [hLu, part_len hn hk]; exact HM.out
  have E1 := Lib.hid (show ∀ j (hj : j < Lu.length), okF (Lu[j]'hj) = true by
    subst hLu
    intro j hj
    have hj2 : j < C - k := by rw [part_len hn hk] at hj; exact hj
    have e9 : (partL (tabM R C (exG e.g i n)) (n * C + k) (C - k))[j]'hj = exG e.g i n n (k + j) := by
      simp only [part_tab hn hk, List.getElem_map, List.getElem_range]
    rw [e9]
    exact HOKG.out n (k + j) hn (by omega))
  have HRU := Lib.hid (show RatsAt wc (.slice (some ⟨q, o3, none⟩) m m) Lu by
    have h9 := rats_partV (o := n * C + k) (m := C - k) (c := C - k) P6.out.S.V'.rats (by rw [tabM_len]; exact part_in hn hk) (Nat.le_refl _) (by unfold maxLen; omega)
    unfold partV at h9
    rw [HO3.out, HM.out, ← HM.out, ← hLu, HM.out] at h9
    exact h9)
  obtain ⟨Z, hZ⟩ : ∃ x, x = fineV (mulsL (invX f) Lu) := ⟨_, rfl⟩
  have HZ := Lib.hid hZ
  have HMU := Lib.hid (fun W (hW : Below wc.heap.size wc W) => (impl_multiplesOf (invX f) (ok_inv HFK.out HFN.out) (.slice a4 f.den.length r4) (.slice a3 f.mag.length r3) (.slice (some ⟨q, o3, none⟩) m m) Lu W ⟨(RF6.out.below hW).2, (RF6.out.below hW).1⟩ (HRU.out.below hW) (by omega) E1.out).mono (R' := fun e w' => ∃ x xs, e = .returned (.tuple #[x, .bool Z]) ∧ OwnV w' wc.heap.size x (mulsA (invX f) Lu) xs ∧ Below wc.heap.size wc w') (fun e w' ⟨x, xs, he, ho, hb⟩ => ⟨x, xs, by rw [he, ← hZ], ho.base hW.size, hW.trans (hb.mono hW.size)⟩))
  have HIV := Lib.hid (fun W (hW : Below wc.heap.size wc W) => (impl_invF f (.slice a3 f.mag.length r3) (.slice a4 f.den.length r4) W (RF6.out.below hW)).mono (R' := fun e w' => e = .returned (.agg #[.bool (invX f).neg, .slice a4 f.den.length r4, .slice a3 f.mag.length r3]) ∧ Below wc.heap.size wc w') (fun e w' ⟨he, hb⟩ => ⟨he, hW.trans (hb.mono hW.size)⟩))
  have HS := Lib.hid (show ∀ W : World, Below wc.heap.size wc W → (W.cell? ⟨p8, 0, none⟩ = some (.slice (some ⟨q, o3, none⟩) m m) ∧ W.cell? ⟨p9, 0, none⟩ = some (.bool f.neg) ∧ W.cell? ⟨p9, 1, none⟩ = some (.slice a3 f.mag.length r3) ∧ W.cell? ⟨p9, 2, none⟩ = some (.slice a4 f.den.length r4)) from fun W hW => ⟨(boxed_belowU Q8.out hW).cell, (F6.out.below hW).c0, (F6.out.below hW).c1, (F6.out.below hW).c2⟩)
  have k8 := Q8.out.cell
  have f0 := F6.out.c0
  have f1 := F6.out.c1
  have f2 := F6.out.c2
  clear hLu hZ RF6
  go_upto_region 7 with fail
  refine wp_blind ?_
  go_region_held3 (fun w' => w'.cell? ⟨p8, 0, none⟩ = some (.slice (some ⟨q, o3, none⟩) m m) ∧ w'.cell? ⟨p9, 0, none⟩ = some (.bool f.neg) ∧ w'.cell? ⟨p9, 1, none⟩ = some (.slice a3 f.mag.length r3) ∧ w'.cell? ⟨p9, 2, none⟩ = some (.slice a4 f.den.length r4))
    (exact HS.out _ (by first | with_reducible exact Below.refl _ _ | with_reducible exact (Below.refl _ _).drew | with_reducible exact bb_a | with_reducible exact bb_b | with_reducible exact bb_m | with_reducible exact bb_s | with_reducible exact bb_d | with_reducible exact (Below.refl _ _).alloc (Nat.le_refl _) _ | with_reducible exact ((Below.refl _ _).alloc (Nat.le_refl _) _).drew | with_reducible exact bb_a.alloc bb_a.size _ | fail))
    (first
      | (go_at_call 163; refine (HMU.out _ (by first | with_reducible exact Below.refl _ _ | with_reducible exact (Below.refl _ _).drew | with_reducible exact bb_a | with_reducible exact bb_b | with_reducible exact bb_m | with_reducible exact bb_s | with_reducible exact bb_d | with_reducible exact (Below.refl _ _).alloc (Nat.le_refl _) _ | with_reducible exact ((Below.refl _ _).alloc (Nat.le_refl _) _).drew | with_reducible exact bb_a.alloc bb_a.size _ | fail)).mono ?_; rintro ee w_b ⟨x_b, xs_b, rfl, o_b, bb_b⟩)
      | (go_at_call 164; refine (HIV.out _ (by first | with_reducible exact Below.refl _ _ | with_reducible exact (Below.refl _ _).drew | with_reducible exact bb_a | with_reducible exact bb_b | with_reducible exact bb_m | with_reducible exact bb_s | with_reducible exact bb_d | with_reducible exact (Below.refl _ _).alloc (Nat.le_refl _) _ | with_reducible exact ((Below.refl _ _).alloc (Nat.le_refl _) _).drew | with_reducible exact bb_a.alloc bb_a.size _ | fail)).mono ?_; rintro ee w_a ⟨rfl, bb_a⟩))
  have hBw : B ≤ wc.heap.size := by have := P6.out.hB; have := P6.out.D.lt; omega
  have P7 := Lib.hid (P6.out.below bb_b)
  have R5 := Lib.hid (boxed_belowU Q5.out bb_b)
  have R6 := Lib.hid (boxed_belowU Q6.out bb_b)
  have R7 := Lib.hid (boxed_belowU Q7.out bb_b)
  have R8 := Lib.hid (boxed_belowU Q8.out bb_b)
  have BB7 := Lib.hid (BB6.out.trans (bb_b.mono hBw))
  have OB := Lib.hid o_b
  have LPW := Lib.hid (P6.out.S.lt_all)
  have P6K := Lib.hid P6.out
  have KBB := Lib.hid (Kept.of_below (S := fun j => j = q) bb_b)
  clear P6 Q5 Q6 Q7 Q8 F6 BB6 o_b HMU HIV HS k8 f0 f1 f2 bb_b HRU
  cases Z with
  | false =>
    have HZ9 := Lib.hid (show ZF = false by
      rw [HZF.out]
      have h9 : ¬ ∀ b, k ≤ b → b < C → okF (dvG (exG e.g i n) n k n b) = true := fun hall => by
        have h8 := (quot_fine HOKG.out hn hk HFNG.out).2 hall
        rw [HEG.out, ← HLU.out, ← HZ.out] at h8
        cases h8
      obtain ⟨b, h8⟩ := Classical.not_forall.1 h9
      obtain ⟨h7, h8⟩ := Classical.not_imp.1 h8
      obtain ⟨h6, h8⟩ := Classical.not_imp.1 h8
      exact use_badQ HEO.out.ok HN0.out hi hn hk HPV.out h6 h7 h8)
    have y0 := R6.out.cell
    have y1 := R6.out.frozen
    have e9 := (R6.out.set (.bool false)).cell
    have B9 := Lib.hid (BB7.out.setCell (p := ⟨hh + 1, 0, none⟩) (by show B ≤ hh + 1; omega) (.bool false))
    obtain rfl : ZF = false := HZ9.out
    go_wp2_with fail
    refine ⟨.bool false, ?_, ?_⟩
    · simp [results, Tryz.f140, go_sem, e9]
    · first | exact ⟨rfl, B9.out⟩ | exact ⟨rfl, (fun h => by cases h), B9.out⟩
  | true =>
  obtain ⟨QL, hQL⟩ : ∃ x, x = mulsL (invX f) Lu := ⟨_, rfl⟩
  have HQA := Lib.hid (show mulsA (invX f) Lu = QL by rw [hQL]; exact mulsA_yes HZ.out.symm)
  have hQm : QL.length = m := by rw [hQL, muls_len, hlu]
  have ob := OB.out
  rw [HQA.out] at ob
  obtain ⟨g3, c3, rfl, hg3, hg3'⟩ := ob.some_at (by omega)
  rw [hQm] at ob ⊢
  obtain ⟨cur, hcur, hcl, hcn⟩ := P7.out.S.V'.block
  have hfl9 := flat_len QL xs_b ob.len
  have hlN : (tabM R C (exG e.g i n)).length = N := by rw [tabM_len, HN.out]
  have hin9 := part_in hn hk
  have hin8 : n * C + k + m ≤ N := by rw [← HM.out, HN.out]; exact hin9
  have HSPL := Lib.hid (show spl (tabM R C (exG e.g i n)) (n * C + k) QL = tabM R C (dvG (exG e.g i n) n k) by
    rw [hQL, HLU.out]
    have h9 := quot_spl (g := exG e.g i n) hn hk
    rw [HEG.out] at h9
    exact h9)
  have SP := P7.out.S.V'.splice (M := QL) (ys := xs_b) (o := n * C + k) hcur ob.len (by rw [hlN, hQm]; exact hin8) (fun j h1 h2 => (ob.each j h1 h2).base hBw) ob.apart (fun p' hp' q' hq' r r' e1 e2 => by have h3 := LPW.out r (.inl (.inr ⟨p', hp', e1⟩)); have h4 := (xs_lt ob q' hq' r' e2).1; omega) (fun q' hq' r e2 => by have h4 := (xs_lt ob q' hq' r e2).1; have := LPW.out q (.inl (.inl rfl)); omega)
  rw [HSPL.out, HO3.out] at SP
  have HP8 := Lib.hid (show ∀ w4, w4 = w_b.setRow q (cur.take o3 ++ flat QL xs_b ++ cur.drop (o3 + (flat QL xs_b).length)).toArray → (∃ xs8, PrS w4 B p (some ⟨q, 0, none⟩) N cap R C ⟨dvG (exG e.g i n) n k, e.piv ++ [k], FX ++ [f]⟩ (.slice (some ⟨fg, 0, none⟩) fn fc) (.slice (some ⟨fg4, 0, none⟩) fn4 fc4) xs8 (ps3 ++ [(.slice a3 f.mag.length r3, .slice a4 f.den.length r4)])) ∧ Kept (fun j => j = q) w_b w4 from fun w4 h4 => by
    subst h4
    exact ⟨⟨_, P6K.out.cells SP.1 (KBB.out.trans SP.2) (fun b hb => .inl (by rw [hb]; rfl)) (onV_spl (n := wc.heap.size) (fun q' hq' r e2 => (xs_lt ob q' hq' r e2).1))⟩, SP.2⟩)
  have HSRC := Lib.hid ob.src
  have HONE := Lib.hid ob.one
  have HCU := Lib.hid (And.intro hcur (show o3 + (flat QL xs_b).length ≤ cur.length by rw [hfl9, hcl, ← HO3.out]; omega))
  have HF9 := Lib.hid (show (flat QL xs_b).length = m * 3 by rw [hfl9, hQm])
  have k8 := R8.out.cell
  clear SP hcur hcl hcn hfl9 hin9 hin8 hlN ob hQL
  go_wp2_with (first
    | (refine copy3_list rfl (.tmp 63) (.tmp 64) 23 23 Tryz.underlying23 rfl q o3 m m ⟨g3, 0, none⟩ m c3 m rfl rfl cur 34 (flat QL xs_b) HCU.out.1 (Nat.min_self m) HF9.out HSRC.out HCU.out.2 HONE.out ?_; intro w4 hg4 hw4; have HW4 := Lib.hid hw4; clear hw4; obtain ⟨⟨xs8, P8'⟩, K8'⟩ := HP8.out w4 HW4.out; have P8 := Lib.hid P8'; have K8 := Lib.hid K8'; clear P8' K8'; have d0 := P8.out.D.c0; have d1 := P8.out.D.c1; have d2 := P8.out.D.c2)
    | (go_at_call 70; refine ((callsIn_wide (n := 3)).1 (rows_in Fence.wide _ trivial rfl _ _ _ _)).mono ?_; rintro ee w' ⟨rfl, rfl⟩))
  obtain ⟨qb, hqb⟩ : ∃ x, x = w4.heap.size := ⟨_, rfl⟩
  obtain ⟨W1, hW1⟩ : ∃ x, x = w4.alloc (.cells #[.int .i64 (R : Int), .int .i64 (C : Int), (.slice (some ⟨q, 0, none⟩) N cap)] 25) := ⟨_, rfl⟩
  have b9 := (show Below w4.heap.size w4 W1 by rw [hW1]; exact (Below.refl _ _).alloc (Nat.le_refl _) _)
  have DB := Lib.hid (show B3 W1 qb 25 (.int .i64 (R : Int)) (.int .i64 (C : Int)) (.slice (some ⟨q, 0, none⟩) N cap) by rw [hW1, hqb]; exact B3.new _ _ _ _ _)
  have P9 := Lib.hid (P8.out.below b9)
  have Y5 := Lib.hid (boxed_belowU (boxed_keptK R5.out K8.out (by omega)) b9)
  have Y6 := Lib.hid (boxed_belowU (boxed_keptK R6.out K8.out (by omega)) b9)
  have Y7 := Lib.hid (boxed_belowU (boxed_keptK R7.out K8.out (by omega)) b9)
  have Y8 := Lib.hid (boxed_belowU (boxed_keptK R8.out K8.out (by omega)) b9)
  have hB4 : B ≤ w4.heap.size := by have := K8.out.size; have := R5.out.lt; omega
  have BB9 := Lib.hid ((below_kept BB7.out K8.out (by have := R5.out.lt; omega) (fun b hb => by rw [hb]; exact (P8.out.S.V.lt q (.inl rfl)).1)).trans (b9.mono hB4))
  have hs9 : W1.heap.size = qb + 1 := by rw [hW1, hqb]; simp
  have hq9 : p8 < qb := by rw [hqb]; have := K8.out.size; have := R8.out.lt; omega
  rw [← hW1, ← hqb]
  obtain ⟨ps8, hps8⟩ : ∃ x, x = ps3 ++ [(Value.slice a3 f.mag.length r3, Value.slice a4 f.den.length r4)] := ⟨_, rfl⟩
  rw [← hps8] at P9
  have HOK2 := Lib.hid (show OkM R C (dvG (exG e.g i n) n k) from fun a b ha hb => by
    by_cases h9 : a = n ∧ k ≤ b
    · obtain ⟨rfl, h8⟩ := h9
      have h7 := HZ.out.symm
      rw [HLU.out, ← HEG.out] at h7
      exact (quot_fine HOKG.out hn hk HFNG.out).1 h7 b h8 hb
    · unfold dvG
      rw [if_neg h9]
      exact HOKG.out a b ha hb)
  have HFE := Lib.hid (show FX ++ [f] = (useE e i k).fac by unfold useE; rw [HN0.out, HFX.out, HF.out])
  obtain ⟨F8, hF8⟩ : ∃ x, x = FX ++ [f] := ⟨_, rfl⟩
  rw [← hF8] at P9 HFE
  clear hqb hW1 b9 P8 K8 R5 R6 R7 R8 BB7 hB4 hps8 hF8 HP8 HSRC HONE HCU HF9 HSPL OB P7 P6K KBB LPW HQA hg3 hg3' k8 d0 d1 d2 hg4 HW4
  clear HZ E1 HLU HE3
  refine (wpIn_wide (n := 3)).1 ?_
  refine wpIn_rangeFunc_ownG rfl (by omega) (gf := 112) (lb := #[.pointer (some ⟨qb, 0, none⟩)]) rfl trivial (enters_of Tryz.func112 (by kernel_rfl) rfl)
    (rows_stops qb R C N _ cap (by omega) (some ⟨q, 0, none⟩) hR hC HN.out hcap.1 hcap.2 W1 DB.out) (fun h k => KpM.trans h k) (KpM.putObj (by omega)) (Below.refl _ _) (fun _ => rfl)
    (fun pre W => ((∃ gp xs', OkM R C gp ∧ PrS W B p (some ⟨q, 0, none⟩) N cap R C ⟨gp, e.piv ++ [k], F8⟩ (.slice (some ⟨fg, 0, none⟩) fn fc) (.slice (some ⟨fg4, 0, none⟩) fn4 fc4) xs' ps8 ∧ (pre.map rix = List.range pre.length → ∀ r b, r < R → b < C → gp r b = clP (dvG (exG e.g i n) n k) n k pre.length k r b)) ∧ Boxed W hh 3 (.int .i64 (k : Int)) ∧ Boxed W (hh + 1) 4 (.bool false) ∧ Boxed W (hh + 1 + 1) 3 (.int .i64 (n : Int)) ∧ Boxed W p8 23 (.slice (some ⟨q, o3, none⟩) m m) ∧ qb < W.heap.size) ∧ Below B w W)
    (fun c pre W => (c = .ret ∧ Boxed W (hh + 1) 4 (.bool false) ∧ ((∃ x, x ≤ R ∧ pre.map rix = List.range x) → ZF = false)) ∧ Below B w W)
    (OwnFrom.and (Own.from (fun s A B' row hs hg hr => by
      obtain ⟨⟨gp, xs', h1, h2, h3⟩, h5, h6, h7, h8, h9⟩ := hs
      exact ⟨⟨gp, xs', h1, h2.turn hg hr, h3⟩, boxed_own _ _ (fun _ : List (RowA R) => _) s A B' row h5 hg hr, boxed_own _ _ (fun _ : List (RowA R) => _) s A B' row h6 hg hr, boxed_own _ _ (fun _ : List (RowA R) => _) s A B' row h7 hg hr, boxed_own _ _ (fun _ : List (RowA R) => _) s A B' row h8 hg hr, Nat.lt_of_lt_of_le h9 hg.size⟩) _) (ownFrom_below HB9.out (by omega)))
    (fun c => OwnFrom.and (Own.from (fun s A B' row hs hg hr => ⟨hs.1, boxed_own _ _ (fun _ : List (RowA R) => _) s A B' row hs.2.1 hg hr, hs.2.2⟩) _) (ownFrom_below HB9.out (by omega)))
    ⟨⟨⟨_, xs8, HOK2.out, P9.out, fun _ r b _ _ => by rw [List.length_nil, clP_zero _ _ _ _ (Nat.le_refl _)]⟩, Y5.out, Y6.out, Y7.out, Y8.out, by omega⟩, BB9.out⟩
    (fun y => { tmps := List.toArray ((.pointer (some ⟨p, 0, none⟩) : Value) :: (.int .i64 (i : Int) : Value) :: (.int .i64 (k : Int) : Value) :: undef :: undef :: (.pointer (some ⟨hh, 0, none⟩) : Value) :: (.pointer (some ⟨hh + 1, 0, none⟩) : Value) :: (.pointer (some ⟨hh + 1 + 1, 0, none⟩) : Value) :: (.pointer (some ⟨p8, 0, none⟩) : Value) :: (.pointer (some ⟨p9, 0, none⟩) : Value) :: (.slice (some ⟨g3, 0, none⟩) m c3 : Value) :: (.bool true : Value) :: (.int .i64 (y.1 : Int) : Value) :: (rowV (some ⟨q, 0, none⟩) C y.1 : Value) :: (.pointer (some ⟨p, 0, none⟩) : Value) :: (.pointer (some ⟨p, 0, none⟩) : Value) :: (.pointer (some ⟨p, 3, none⟩) : Value) :: (.slice pa n pc : Value) :: (.int .i64 (n : Int) : Value) :: (u19 : Value) :: (u20 : Value) :: (u21 : Value) :: (u22 : Value) :: (u23 : Value) :: (u24 : Value) :: (u25 : Value) :: (u26 : Value) :: (u27 : Value) :: (u28 : Value) :: (.pointer (some ⟨p, 0, none⟩) : Value) :: (.int .i64 (i : Int) : Value) :: (.int .i64 (n : Int) : Value) :: (vv : Value) :: (u33 : Value) :: (u34 : Value) :: (u35 : Value) :: (u36 : Value) :: (u37 : Value) :: (u38 : Value) :: (u39 : Value) :: (u40 : Value) :: (.slice (some ⟨q, o3, none⟩) m m : Value) :: (.pointer (some ⟨q, o3, none⟩) : Value) :: (.agg #[.bool f.neg, .slice a3 f.mag.length r3, .slice a4 f.den.length r4] : Value) :: (u44 : Value) :: (u45 : Value) :: (u46 : Value) :: (u47 : Value) :: (u48 : Value) :: (u49 : Value) :: (u50 : Value) :: (u51 : Value) :: (u52 : Value) :: (u53 : Value) :: (.tuple #[.slice (some ⟨g3, 0, none⟩) m c3, .bool true] : Value) :: (.slice (some ⟨q, o3, none⟩) m m : Value) :: (.agg #[.bool f.neg, .slice a3 f.mag.length r3, .slice a4 f.den.length r4] : Value) :: (.agg #[.bool (invX f).neg, .slice a4 f.den.length r4, .slice a3 f.mag.length r3] : Value) :: (.tuple #[.slice (some ⟨g3, 0, none⟩) m c3, .bool true] : Value) :: (.slice (some ⟨g3, 0, none⟩) m c3 : Value) :: (.bool true : Value) :: (.bool true : Value) :: (.bool false : Value) :: (.slice (some ⟨q, o3, none⟩) m m : Value) :: (.slice (some ⟨g3, 0, none⟩) m c3 : Value) :: (.int .i64 (m : Int) : Value) :: (.pointer (some ⟨p, 0, none⟩) : Value) :: (.pointer (some ⟨p, 0, none⟩) : Value) :: (.pointer (some ⟨p, 0, none⟩) : Value) :: (.agg #[.int .i64 (R : Int), .int .i64 (C : Int), .slice (some ⟨q, 0, none⟩) N cap] : Value) :: (.func (.func 112) #[] #[.pointer (some ⟨qb, 0, none⟩)] : Value) :: (.int .i64 (y.1 : Int) : Value) :: (rowV (some ⟨q, 0, none⟩) C y.1 : Value) :: (u73 : Value) :: (u74 : Value) :: (u75 : Value) :: (u76 : Value) :: (u77 : Value) :: (u78 : Value) :: (u79 : Value) :: (u80 : Value) :: (u81 : Value) :: (u82 : Value) :: (u83 : Value) :: []), defers := [] }) ?assign ?body ?done ?stop
  case assign =>
    intro l y W K hK
    gi_wp2
    exact hK
  case body =>
    rintro l pre y W ⟨⟨⟨gp, xs', hok, hP, hrel⟩, h5, h6, h7, h8, hsz⟩, hB⟩ _
    have hi9 := y.2
    have hyx : rix y = y.1 := rfl
    have HREL := Lib.hid (show (pre ++ [y]).map rix = List.range (pre ++ [y]).length → y.1 = pre.length ∧ ∀ r b, r < R → b < C → gp r b = clP (dvG (exG e.g i n) n k) n k y.1 k r b from fun h9 => by
      obtain ⟨h8, h7⟩ := range_snoc h9
      rw [hyx] at h7
      refine ⟨h7, fun r b hr hb => ?_⟩
      rw [h7]
      exact hrel h8 r b hr hb)
    have KOK := Lib.hid hok
    have KP := Lib.hid hP
    have K5 := Lib.hid h5
    have K6 := Lib.hid h6
    have K7 := Lib.hid h7
    have K8 := Lib.hid h8
    have KB := Lib.hid hB
    have KS := Lib.hid hsz
    have hlen9 : (pre ++ [y]).length = pre.length + 1 := by simp
    rw [rowV_some (show 0 < C by omega), Nat.zero_add]
    obtain ⟨a, ha⟩ : ∃ a, y.1 = a := ⟨_, rfl⟩
    have HYA := Lib.hid ha
    rw [ha] at hi9 HREL ⊢
    clear ha hok hP hrel h5 h6 h7 h8 hB hsz hyx
    have c5 := K5.out.cell
    have c7 := K7.out.cell
    have c8 := K8.out.cell
    by_cases han : a = n
    · have hne : ((a : Int) != (n : Int)) = false := by unfold bne; rw [show ((a : Int) == (n : Int)) = true by rw [beq_iff_eq]; omega]; rfl
      have bw := (Below.refl W.heap.size W).drew
      have HFIN := Lib.hid (show KeepsFrom W1.heap.size W W.drew ∧ KpM qb W W.drew ∧ (((∃ gp xs', OkM R C gp ∧ PrS W.drew B p (some ⟨q, 0, none⟩) N cap R C ⟨gp, e.piv ++ [k], F8⟩ (.slice (some ⟨fg, 0, none⟩) fn fc) (.slice (some ⟨fg4, 0, none⟩) fn4 fc4) xs' ps8 ∧ ((pre ++ [y]).map rix = List.range (pre ++ [y]).length → ∀ r b, r < R → b < C → gp r b = clP (dvG (exG e.g i n) n k) n k (pre ++ [y]).length k r b)) ∧ Boxed W.drew hh 3 (.int .i64 (k : Int)) ∧ Boxed W.drew (hh + 1) 4 (.bool false) ∧ Boxed W.drew (hh + 1 + 1) 3 (.int .i64 (n : Int)) ∧ Boxed W.drew p8 23 (.slice (some ⟨q, o3, none⟩) m m) ∧ qb < W.drew.heap.size) ∧ Below B w W.drew) from
        ⟨(KeepsOthers.of_grownBy (grown_of_below bw none) (fun j o e => by cases e)).from _, rfl, ⟨⟨gp, xs', KOK.out, KP.out.drew, fun h9 r b hr hb => by
          obtain ⟨h8, h7⟩ := HREL.out h9
          have h6 := rowC_clP hi9 hn hk h7 r b hr hb
          rw [han, rowC_self] at h6
          rw [h6, hlen9, ← h8, han]⟩, K5.out, K6.out, K7.out, K8.out, KS.out⟩, KB.out.drew⟩)
      clear bw
      have hd1 : decide (a = n) = true := decide_eq_true han
      have hd2 : (a == n) = true := beq_iff_eq.2 han
      have hd3 : ((a : Int) == (n : Int)) = true := by rw [beq_iff_eq]; omega
      have hd4 : decide ((a : Int) = (n : Int)) = true := decide_eq_true (by omega)
      clear han
      gi_upto_region 14 with fail
      refine wpIn_blind ?_
      gi_region_with (refine ⟨trivial, ?_⟩)
      all_goals gi_wp2_with fail
      all_goals exact HFIN.out
    · have hne : ((a : Int) != (n : Int)) = true := by unfold bne; rw [show ((a : Int) == (n : Int)) = false by rw [beq_eq_false_iff_ne]; omega]; rfl
      have hd1 : decide (a = n) = false := decide_eq_false han
      have hd2 : (a == n) = false := by rw [beq_eq_false_iff_ne]; exact han
      have hd3 : ((a : Int) == (n : Int)) = false := by rw [beq_eq_false_iff_ne]; omega
      have hd4 : decide ((a : Int) = (n : Int)) = false := decide_eq_false (by omega)
      have hkC : (k : Int) ≤ (C : Int) := by omega
      have hkC2 : ¬ C = k := by omega
      have hk0 : (0 : Int) ≤ (k : Int) := by omega
      obtain ⟨l9, hl9⟩ : ∃ x, a * C * 3 = x := ⟨_, rfl⟩
      obtain ⟨o1, ho1⟩ : ∃ x, l9 + k * 3 = x := ⟨_, rfl⟩
      have HO1 := Lib.hid (show (a * C + k) * 3 = o1 by rw [← ho1, ← hl9]; omega)
      have HCL := Lib.hid (clr_row (g := gp) (gp := gp) KOK.out hn hk hi9 han (fun _ => rfl) (fun _ => rfl))
      obtain ⟨cb, hcb⟩ : ∃ x, x = clrB (partL (tabM R C gp) (a * C + k) (C - k)) (partL (tabM R C gp) (n * C + k) (C - k)) := ⟨_, rfl⟩
      obtain ⟨cr, hcr⟩ : ∃ x, x = clrR (partL (tabM R C gp) (a * C + k) (C - k)) (partL (tabM R C gp) (n * C + k) (C - k)) := ⟨_, rfl⟩
      have OKP := Lib.hid (fun (r : Nat) (hr : r < R) => (show ∀ j (hj : j < (partL (tabM R C gp) (r * C + k) (C - k)).length), okF ((partL (tabM R C gp) (r * C + k) (C - k))[j]'hj) = true from fun j hj => by
        have hj2 : j < C - k := by rw [part_len hr hk] at hj; exact hj
        simp only [part_tab hr hk, List.getElem_map, List.getElem_range]
        exact KOK.out r (k + j) hr (by omega)))
      have HQW := Lib.hid (show B ≤ W.heap.size by have := K5.out.lt; omega)
      have HCF := Lib.hid (fun W' (hW : Below W.heap.size W W') => impl_clearFirst q N cap B (a * C + k) (n * C + k) (C - k) (C - k) (C - k) (tabM R C gp) xs' W' (KP.out.S.V'.below hW) (by omega) (by omega) (by rw [tabM_len]; exact part_in hi9 hk) (by rw [tabM_len]; exact part_in hn hk) ⟨Nat.le_refl _, by omega⟩ ⟨Nat.le_refl _, by omega⟩ (OKP.out a hi9) (OKP.out n hn) (Nat.le_trans HQW.out hW.size))
      rw [← hcb, ← hcr] at HCF HCL
      unfold partV at HCF
      rw [HO1.out, HO3.out, HM.out] at HCF
      obtain ⟨oq, hoq, hoc⟩ := KP.out.S.V'.cellsB q (.inl rfl)
      have HOQ := Lib.hid (And.intro hoq hoc)
      have HAN := Lib.hid han
      clear hcb hcr OKP hoq hoc han
      have HCT := Lib.hid (fun W' (hW : Below W.heap.size W W') => (callsIn_wide (n := 0)).2 ((HCF.out W' hW).mono (R' := fun e w' => e = .returned (.bool cb) ∧ (cb = true → ∃ ys, OwnV w' B (.slice (some ⟨q, 0, none⟩) N cap) (tabM R C (rowC n k a gp)) ys ∧ Kept (fun j => j = q) W' w' ∧ (∀ j, OnV (.slice (some ⟨q, 0, none⟩) N cap) ys j → OnV (.slice (some ⟨q, 0, none⟩) N cap) xs' j ∨ W'.heap.size ≤ j)) ∧ Kept (fun j => j = q) W' w' ∧ Below B W' w') (fun e w' ⟨he, hv, hk9, hb⟩ => by
        refine ⟨he, fun hcb => ?_, hk9, hb⟩
        obtain ⟨ys, v1, v2, v3⟩ := hv hcb
        rw [HCL.out.2, rowC_spl hk hi9 HAN.out] at v1
        exact ⟨ys, v1, v2, v3⟩)))
      have HZ9 := Lib.hid (show cb = false → (∃ x, x ≤ R ∧ (pre ++ [y]).map rix = List.range x) → ZF = false from fun hcb ⟨x, hx, hr⟩ => by
        have hxl : x = (pre ++ [y]).length := by
          have h9 := congrArg List.length hr
          rw [List.length_map, List.length_range] at h9
          exact h9.symm
        rw [hxl] at hr
        obtain ⟨h8, h7⟩ := HREL.out hr
        have hnot : ¬ ∀ b, k ≤ b → b < C → okF (clE gp n k a b) = true := fun hall => by
          have h6 := HCL.out.1.2 hall
          rw [hcb] at h6
          cases h6
        obtain ⟨b, h6⟩ := Classical.not_forall.1 hnot
        obtain ⟨h5, h6⟩ := Classical.not_imp.1 h6
        obtain ⟨h4, h6⟩ := Classical.not_imp.1 h6
        have e1 : gp a k = dvG (exG e.g i n) n k a k := by rw [h7 a k hi9 hk, clP_start]
        have e2 : gp n b = dvG (exG e.g i n) n k n b := by rw [h7 n b hn h4, clP_row]
        have e3 : gp a b = dvG (exG e.g i n) n k a b := by rw [h7 a b hi9 h4, clP_start]
        rw [HZF.out]
        refine use_badR HEO.out.ok HN0.out hi hn hk HPV.out hi9 HAN.out h4 h5 ?_
        intro h3
        apply h6
        unfold clE at h3 ⊢
        rw [e1, e2, e3]
        exact h3)
      have HFINT := Lib.hid (show ∀ w_c, cb = true → (cb = true → ∃ ys, OwnV w_c B (.slice (some ⟨q, 0, none⟩) N cap) (tabM R C (rowC n k a gp)) ys ∧ Kept (fun j => j = q) W.drew w_c ∧ (∀ j, OnV (.slice (some ⟨q, 0, none⟩) N cap) ys j → OnV (.slice (some ⟨q, 0, none⟩) N cap) xs' j ∨ W.drew.heap.size ≤ j)) → Below B W.drew w_c →
          KeepsFrom W1.heap.size W w_c ∧ KpM qb W w_c ∧ (((∃ gp xs', OkM R C gp ∧ PrS w_c B p (some ⟨q, 0, none⟩) N cap R C ⟨gp, e.piv ++ [k], F8⟩ (.slice (some ⟨fg, 0, none⟩) fn fc) (.slice (some ⟨fg4, 0, none⟩) fn4 fc4) xs' ps8 ∧ ((pre ++ [y]).map rix = List.range (pre ++ [y]).length → ∀ r b, r < R → b < C → gp r b = clP (dvG (exG e.g i n) n k) n k (pre ++ [y]).length k r b)) ∧ Boxed w_c hh 3 (.int .i64 (k : Int)) ∧ Boxed w_c (hh + 1) 4 (.bool false) ∧ Boxed w_c (hh + 1 + 1) 3 (.int .i64 (n : Int)) ∧ Boxed w_c p8 23 (.slice (some ⟨q, o3, none⟩) m m) ∧ qb < w_c.heap.size) ∧ Below B w w_c) from fun w_c hcb hv hb => by
        obtain ⟨ys, v1, v2, v3⟩ := hv hcb
        have KK : Kept (fun j => j = q) W w_c := ((Kept.refl _ W).drew).trans v2
        exact ⟨(KK.others2 HOQ.out.1 HOQ.out.2).from _, KK.block qb KS.out (by omega), ⟨⟨rowC n k a gp, ys, rowC_ok KOK.out (HCL.out.1.1 hcb), KP.out.cells v1 KK (fun b hb => .inl (by rw [hb]; rfl)) v3, fun h9 r b hr hb => by
          obtain ⟨h8, h7⟩ := HREL.out h9
          rw [rowC_clP hi9 hn hk h7 r b hr hb, hlen9, ← h8]⟩, boxed_keptK K5.out KK (by omega), boxed_keptK K6.out KK (by omega), boxed_keptK K7.out KK (by omega), boxed_keptK K8.out KK (by omega), Nat.lt_of_lt_of_le KS.out KK.size⟩, KB.out.drew.trans hb⟩)
      have HFINF := Lib.hid (show ∀ w_c, cb = false → Kept (fun j => j = q) W.drew w_c → Below B W.drew w_c →
          (KeepsFrom W1.heap.size W (w_c.setCell ⟨hh + 1, 0, none⟩ (.bool false)) ∧ ((Code.ret = .ret ∧ Boxed (w_c.setCell ⟨hh + 1, 0, none⟩ (.bool false)) (hh + 1) 4 (.bool false) ∧ ((∃ x, x ≤ R ∧ (pre ++ [y]).map rix = List.range x) → ZF = false)) ∧ Below B w (w_c.setCell ⟨hh + 1, 0, none⟩ (.bool false)))) from fun w_c hcb v2 hb => by
        have KK : Kept (fun j => j = q) W w_c := ((Kept.refl _ W).drew).trans v2
        have k6 := boxed_keptK K6.out KK (by omega)
        exact ⟨((KK.others2 HOQ.out.1 HOQ.out.2).trans (KeepsOthers.setCell _ _ _)).from _, ⟨rfl, k6.set _, HZ9.out hcb⟩, (KB.out.drew.trans hb).setCell (p := ⟨hh + 1, 0, none⟩) (by show B ≤ hh + 1; omega) _⟩)
      have HC6 := Lib.hid (show ∀ w_c, Kept (fun j => j = q) W.drew w_c → (w_c.cell? ⟨hh + 1, 0, none⟩ = some (.bool false) ∧ w_c.frozen? ⟨hh + 1, 0, none⟩ = false) from fun w_c v2 => by
        have KK : Kept (fun j => j = q) W w_c := ((Kept.refl _ W).drew).trans v2
        have k6 := boxed_keptK K6.out KK (by omega)
        exact ⟨k6.cell, k6.frozen⟩)
      clear HCF
      try clear HZ9
      try clear HREL
      try clear HCL
      try clear HAN
      try clear HOQ
      try clear KOK
      try clear KP
      try clear K5
      try clear K6
      try clear K7
      try clear K8
      try clear KB
      try clear KS
      try clear HYA
      try clear hlen9
      try clear HQW
      try clear HO1
      try clear HZF
      try clear HN
      try clear HB9
      try clear HEO
      try clear HPV
      try clear HN0
      try clear HH
      try clear FVL
      try clear PVL
      try clear HPL
      try clear HFX
      try clear FV3
      try clear HO3
      try clear HM
      try clear FV8
      try clear HF
      try clear HFK
      try clear HFN
      try clear HEG
      try clear HBP
      try clear HBQ
      try clear HE3
      try clear FV5
      try clear hf4
      try clear HOKG
      try clear HFNG
      try clear hlu
      try clear hQm
      try clear HLU
      try clear P9
      try clear DB
      try clear Y5
      try clear Y6
      try clear Y7
      try clear Y8
      try clear BB9
      try clear HOK2
      try clear HFE
      try clear hs0
      try clear hs9
      try clear hq9
      try clear hfl
      try clear hcap
      try clear hsz3
      try clear hp8
      try clear hp89
      try clear hpp9
      try clear hqp9
      try clear hBw
      try clear hwl
      try clear hpw
      try clear hB'
      gi_upto_region 14 with fail
      refine wpIn_blind ?_
      gi_region_with (first
        | ((try refine ⟨trivial, ?_⟩); gi_at_call 165; refine ((HCT.out _ (Below.refl _ _).drew).inRound l).mono ?_; rintro ee w_c ⟨rfl, hv, v2, hb⟩))
      all_goals obtain ⟨c6, f6⟩ := HC6.out w_c v2
      all_goals have HFT := Lib.hid (fun hcb => HFINT.out w_c hcb hv hb)
      all_goals have HFF := Lib.hid (fun hcb => HFINF.out w_c hcb v2 hb)
      all_goals clear HFINT HFINF HCT HC6 hv v2 hb c5 c7 c8
      all_goals (cases cb with
        | true =>
          gi_wp2_with fail
          obtain ⟨z1, z2, ⟨⟨gp9, xs9, z3, z4, z5⟩, z6, z7, z8, z9, z10⟩, z11⟩ := HFT.out (by trivial)
          first | exact ⟨z1, z2, ⟨⟨gp9, z3, ⟨xs9, z4⟩, z5⟩, z6, z7, z8, z9, z10⟩, z11⟩ | exact ⟨z1, z2, ⟨⟨gp9, xs9, z3, z4, z5⟩, z6, z7, z8, z9, z10⟩, z11⟩
        | false =>
          gi_wp2_with fail
          obtain ⟨z1, ⟨_, z3, z4⟩, z5⟩ := HFF.out (by trivial)
          first | exact ⟨z1, ⟨rfl, z3, fun x h7 h8 => z4 ⟨x, h7, h8⟩⟩, z5⟩ | exact ⟨z1, ⟨rfl, z3, z4⟩, z5⟩)
  case done =>
    rintro D ys W hD hS ⟨⟨⟨gp, xs', hok, hP, hrel⟩, h5, h6, h7, h8, hsz⟩, hB⟩ hK
    have hlen : ys.length = R := by
      have h9 := congrArg List.length hS
      rw [List.length_map, List.length_range] at h9
      exact h9
    rw [hlen] at hrel
    have hgp := hrel hS
    have HZ9 := Lib.hid (show ZF = true by
      rw [HZF.out]
      refine use_fine HEO.out.ok HN0.out hi hn hk HPV.out (fun b h1 h2 => ?_) (fun a ha han b h1 h2 => ?_)
      · have h9 := hok n b hn h2
        rw [hgp n b hn h2, clP_row] at h9
        exact h9
      · have h9 := hok a b ha h2
        rw [hgp a b ha h2] at h9
        have h8 : clP (dvG (exG e.g i n) n k) n k R k a b = clE (dvG (exG e.g i n) n k) n k a b := by unfold clP; rw [if_pos ⟨han, h1, .inl ha⟩]
        rw [h8] at h9
        exact h9)
    obtain rfl : ZF = true := HZ9.out
    have HPF := Lib.hid (show PrS W B p (some ⟨q, 0, none⟩) N cap R C (useE e i k) (.slice (some ⟨fg, 0, none⟩) fn fc) (.slice (some ⟨fg4, 0, none⟩) fn4 fc4) xs' ps8 by
      have h9 := hP.re (g' := (useE e i k).g) ((tabM_congr hgp).trans ((clP_end _ n k k).trans (by unfold useE; rw [HN0.out])))
      rw [HFE.out] at h9
      exact h9)
    have K0 := Lib.hid h6
    have KB := Lib.hid hB
    have HK := Lib.hid hK
    have HDD := Lib.hid hD
    have c1 := h6.cell
    have f1 := h6.frozen
    clear hS hB hK hD hsz hok hP hrel hgp h5 h6 h7 h8
    go_wp2
    have hK' := (KeepsOthers.setCell W ⟨hh + 1, 0, none⟩ (.bool true)).same D _ HK.out rfl
    have e1 := boxed_shut (K0.out.set (.bool true)) hK'
    have hBl := KB.out.setCell (p := ⟨hh + 1, 0, none⟩) (by show B ≤ hh + 1; omega) (.bool true)
    have hpF := (PrS.setB HPF.out K0.out (by decide) (by decide) (by decide) (.bool true)).shut hK'
    refine ⟨by simp, .inl ⟨_, _, rfl, run_takeDeferred hK', ?_⟩⟩
    refine ⟨.bool true, ?_, ?_⟩
    · simp [results, Tryz.f140, go_sem, e1]
    · have b9 := below_shut (D := D) hBl (by have := HDD.out; omega) (by have := hBl.size; have := HB9.out; omega)
      first | exact ⟨rfl, fun _ => ⟨_, _, _, _, hpF⟩, b9⟩ | exact ⟨rfl, ⟨_, _, _, _, hpF⟩, b9⟩ | exact ⟨⟨_, _, _, _, hpF⟩, b9⟩
  case stop =>
    rintro D c pre W hD hSp ⟨⟨rfl, h6, hzf⟩, hB⟩ hK
    obtain rfl : ZF = false := hzf hSp
    have e1 := boxed_shut h6 hK
    gi_wp2
    refine ⟨by simp, .inl ⟨_, _, rfl, run_takeDeferred hK, ?_⟩⟩
    refine ⟨.bool false, ?_, ?_⟩
    · simp [results, Tryz.f140, go_sem, e1]
    · have b9 := below_shut (D := D) hB (by omega) (by have := hB.size; have := HB9.out; omega)
      first | exact ⟨rfl, (fun h => by cases h), b9⟩ | exact ⟨rfl, b9⟩

end Go.Proofs.YtlepgkkpopjgoaaGreat
