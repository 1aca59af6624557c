/- The matrices and vectors that the laws draw: small fractions, all over 60. -/
import Derived.Test.YtojklmckjebplaaCfr
import Derived.Test.YtojklmckjebplaaCursor
import Derived.Test.YtojklmckjebplaaMatx
namespace Go.Proofs.Ytojklmckjebplaa
open Go.RowKit Go.WideShapes Go.ChangeShapes
set_option linter.unusedVariables false
set_option linter.unusedSimpArgs false
/-- a small number over 60 -/
def Sm (f : Fr) : Prop := ∃ n : Int, f = cf n 60 ∧ n.natAbs ≤ 1200
theorem sm_int {n : Int} (h : n.natAbs ≤ 20) : Sm (⟨ofB n, ofL n, [1]⟩ : Fr) := by
  refine ⟨n * 60, ?_, by rw [Int.natAbs_mul, show (60 : Int).natAbs = 60 from rfl]; omega⟩
  rw [cf_int]
  exact (cf_scale n 1 60 (by omega)).symm
theorem natI_ofL (n : Int) : natI (ofL n) = n.natAbs := natI_limI _
theorem sm_of {n d : Int} (h : n.natAbs ≤ 20) (h1 : 1 ≤ d) (h6 : d ≤ 6) : Sm (⟨ratOfB n d, ratOfZ n d, ratOfD n d⟩ : Fr) := by
  have hr : ∀ m : Int, m.natAbs ≤ 20 → bigOk (ofB m) (ofL m) = true := fun m hm => by
    have hk := okB_limI (x := m.natAbs) (Nat.lt_trans (pw24_big (by omega)) (pw_lt (by omega : 24 < 60)))
    unfold ofB ofL
    by_cases h0 : m < 0
    · rw [decide_eq_true h0, bigOk_neg hk]; exact decide_eq_true ((limI_pos _).2 (by omega))
    · rw [decide_eq_false h0]; exact bigOk_plain hk
  have e : (⟨ratOfB n d, ratOfZ n d, ratOfD n d⟩ : Fr) = cf n d.natAbs := by
    unfold ratOfB ratOfZ ratOfD ratMakeB ratMakeZ ratMakeD
    rw [hr n h, hr d (by omega)]
    simp only [Bool.and_self, ite_true, natI_ofL]
    refine mk_cf (by omega) (by omega) ?_ (pw24_big (by omega)) (pw24_big (by omega))
    have hs : sgnI (!(ofB n == ofB d)) n.natAbs = n := by
      unfold sgnI ofB
      rw [show decide (d < 0) = false from decide_eq_false (by omega)]
      by_cases hn : n < 0
      · rw [decide_eq_true hn]; simp; omega
      · rw [decide_eq_false hn]; simp; omega
    rw [hs]
  rw [e]
  obtain ⟨k, hk⟩ : ∃ k : Nat, d.natAbs * k = 60 ∧ 0 < k ∧ k ≤ 60 := by
    have : d.natAbs = 1 ∨ d.natAbs = 2 ∨ d.natAbs = 3 ∨ d.natAbs = 4 ∨ d.natAbs = 5 ∨ d.natAbs = 6 := by omega
    rcases this with h | h | h | h | h | h <;> rw [h]
    · exact ⟨60, by omega⟩
    · exact ⟨30, by omega⟩
    · exact ⟨20, by omega⟩
    · exact ⟨15, by omega⟩
    · exact ⟨12, by omega⟩
    · exact ⟨10, by omega⟩
  refine ⟨n * k, ?_, ?_⟩
  · rw [← hk.1]; exact (cf_scale n d.natAbs k hk.2.1).symm
  · rw [Int.natAbs_mul, Int.natAbs_natCast]
    exact Nat.le_trans (Nat.mul_le_mul h hk.2.2) (by omega)

set_option maxHeartbeats 400000 in
theorem cur_once (W0 w : World) (cb : Nat) (v : Value) (bs : List UInt8) (n : Int) (h : Cur W0 w cb v bs) (hn : 0 < n) (hn2 : n ≤ 256) :
    Calls Try.prog 111 #[.pointer (some ⟨cb, 0, none⟩), .int .i64 n] w fun e w' => (∃ b : Bool, e = .returned (.bool b)) ∧ Cur W0 w' cb v bs ∧ w.grownBy w' (some cb) := by
  have H := Lib.hid h
  clear h
  go_enter Try.func111, Try.ntmps111
  go_wp2_with fail
  refine (cur_below W0 w cb v bs n H.out hn hn2).mono ?_
  rintro e w1 ⟨⟨x, rfl, h0, h1⟩, hc, hg⟩
  have HC := Lib.hid (And.intro hc hg)
  clear hc hg
  go_wp2
  go_ret
  exact ⟨⟨_, rfl⟩, HC.out.1, HC.out.2⟩
/-- what a draw may do: write into its cursor, and make new blocks -/
theorem cur_back {W0 w w' : World} {cb : Nat} {v : Value} {bs : List UInt8} (h : Cur W0 w cb v bs) (hb : Below w.heap.size w w') : Cur W0 w' cb v bs :=
  h.kept (row := none) ⟨hb.os, hb.tape, hb.output, hb.size, fun k hk _ => hb.block k hk⟩ (fun g e => by cases e)
def Kc (cb : Nat) (w w' : World) : Prop := Kept (fun k => k = cb) w w'
theorem kc_grown {w w' : World} {cb : Nat} (h : w.grownBy w' (some cb)) : Kc cb w w' := (Kept.of_grown h).mono (fun k e => by injection e with e; exact e.symm)
theorem kept_new {S : Nat → Prop} {w w' : World} (h : Kept S w w') (p j : Nat) (hp : w.heap.size ≤ p) (u : Value) : Kept S w (w'.setCell ⟨p, j, none⟩ u) :=
  ⟨h.os, h.tape, h.output, Nat.le_trans h.size (kept_set w' p j u).size, fun k hk hn => ((kept_set w' p j u).block k (Nat.lt_of_lt_of_le hk h.size) (by omega)).trans (h.block k hk hn)⟩
theorem Cur.far {W0 w : World} {cb : Nat} {v : Value} {bs : List UInt8} (h : Cur W0 w cb v bs) (p j : Nat) (hp : W0.heap.size ≤ p) (hne : p ≠ cb) (u : Value) : Cur W0 (w.setCell ⟨p, j, none⟩ u) cb v bs :=
  h.kept (setCell_grown w p j u) (fun g e => by injection e with e; subst e; exact ⟨hp, hne⟩)
set_option maxHeartbeats 1000000 in
theorem draw_number (W0 w : World) (cb : Nat) (v : Value) (bs : List UInt8) (h : Cur W0 w cb v bs) :
    Calls Try.prog 83 #[.pointer (some ⟨cb, 0, none⟩)] w fun e w' => ∃ f x y, e = .returned (.agg #[.bool f.neg, x, y]) ∧ Sm f ∧ OwnR w' w.heap.size x f.mag y f.den ∧ Cur W0 w' cb v bs ∧ Kc cb w w' := by
  obtain ⟨w0, hw0⟩ : ∃ x, x = w.alloc (.cells #[.bool false, .slice none 0 0, .slice none 0 0] 42) := ⟨_, rfl⟩
  have hcb := h.lt
  have Z := Lib.hid (show B3 w0 w.heap.size 42 (.bool false) (.slice none 0 0) (.slice none 0 0) by rw [hw0]; exact B3.new _ _ _ _ _)
  have b0 := (show Below w.heap.size w w0 by rw [hw0]; exact (Below.refl _ _).alloc (Nat.le_refl _) _)
  have HC := Lib.hid (cur_back h b0)
  have HK := Lib.hid (show Kc cb w w0 from Kept.of_below b0)
  have HW := Lib.hid hw0.symm
  have HLT := Lib.hid hcb
  have HB0 := Lib.hid h.below.size
  clear hw0 b0 h hcb
  go_enter Try.func83, Try.ntmps83
  go_wp2_with (rw [HW.out])
  refine (cur_once W0 w0 cb v bs 3 HC.out (by omega) (by omega)).mono ?_
  rintro e w1 ⟨⟨b, rfl⟩, hc1, hg1⟩
  have Z1 := Lib.hid (Z.out.keptK (kc_grown hg1) (by have := HLT.out; omega))
  have K1 := Lib.hid (HK.out.trans (kc_grown hg1))
  have C1 := Lib.hid hc1
  clear hc1 hg1 Z HK HC
  cases b with
  | true =>
    go_wp2_with fail
    refine (cur_below W0 w1 cb v bs 41 C1.out (by omega) (by omega)).mono ?_
    rintro e w2 ⟨⟨x, rfl, x0, x1⟩, hc2, hg2⟩
    have Z2 := Lib.hid (Z1.out.keptK (kc_grown hg2) (by have := HLT.out; omega))
    have K2 := Lib.hid (K1.out.trans (kc_grown hg2))
    have C2 := Lib.hid hc2
    clear hc2 hg2 Z1 K1 C1
    go_wp2_with fail
    refine (cur_below W0 w2 cb v bs 6 C2.out (by omega) (by omega)).mono ?_
    rintro e w3 ⟨⟨y, rfl, y0, y1⟩, hc3, hg3⟩
    have Z3 := Lib.hid (Z2.out.keptK (kc_grown hg3) (by have := HLT.out; omega))
    have K3 := Lib.hid (K2.out.trans (kc_grown hg3))
    have C3 := Lib.hid hc3
    clear hc3 hg3 Z2 K2 C2
    have HS := Lib.hid (sm_of (n := x - 20) (d := 1 + y) (by omega) (by omega) (by omega))
    go_wp2_with fail
    refine (spec_ratOf (x - 20) (1 + y) w3 (by omega) (by omega)).mono ?_
    rintro e w4 ⟨v4, d4, rfl, o4, b4⟩
    obtain ⟨a9, c9, e9, f9, rfl, rfl⟩ := o4.slices
    have Z4 := Z3.out.below b4
    have hsz := K3.out.size
    have z0 := Z4.c0
    have z1 := Z4.c1
    have z2 := Z4.c2
    have x0' := Z4.f 0
    have x1' := Z4.f 1
    have x2' := Z4.f 2
    have D8 := Z4.set3 (.bool (ratOfB (x - 20) (1 + y))) (.slice a9 (ratOfZ (x - 20) (1 + y)).length c9) (.slice e9 (ratOfD (x - 20) (1 + y)).length f9)
    have hc0 := D8.c0
    have hc1 := D8.c1
    have hc2 := D8.c2
    have hne := HLT.out
    have hb0 := HB0.out
    have K8 := Lib.hid (show Kc cb w (((w4.setCell ⟨w.heap.size, 0, none⟩ (.bool (ratOfB (x - 20) (1 + y)))).setCell ⟨w.heap.size, 1, none⟩ (.slice a9 (ratOfZ (x - 20) (1 + y)).length c9)).setCell ⟨w.heap.size, 2, none⟩ (.slice e9 (ratOfD (x - 20) (1 + y)).length f9)) from kept_new (kept_new (kept_new (K3.out.trans (Kept.of_below b4)) _ 0 (Nat.le_refl _) _) _ 1 (Nat.le_refl _) _) _ 2 (Nat.le_refl _) _)
    have C8 := Lib.hid ((((cur_back C3.out b4).far w.heap.size 0 hb0 (by omega) (.bool (ratOfB (x - 20) (1 + y)))).far w.heap.size 1 hb0 (by omega) (.slice a9 (ratOfZ (x - 20) (1 + y)).length c9)).far w.heap.size 2 hb0 (by omega) (.slice e9 (ratOfD (x - 20) (1 + y)).length f9))
    have O8 := Lib.hid ((o4.set3 Z4.rx (by decide) (.slice a9 (ratOfZ (x - 20) (1 + y)).length c9) (.slice e9 (ratOfD (x - 20) (1 + y)).length f9) (b' := (ratOfB (x - 20) (1 + y)))).base hsz)
    clear D8 o4 b4 Z4 hne hb0 hsz
    go_wp2_with fail
    exact bodyPost_ret (v := .agg #[.bool (ratOfB (x - 20) (1 + y)), .slice a9 (ratOfZ (x - 20) (1 + y)).length c9, .slice e9 (ratOfD (x - 20) (1 + y)).length f9]) (by simp [results, Try.results83, go_sem, hc0, hc1, hc2]) rfl ⟨⟨(ratOfB (x - 20) (1 + y)), (ratOfZ (x - 20) (1 + y)), (ratOfD (x - 20) (1 + y))⟩, _, _, rfl, HS.out, O8.out, C8.out, K8.out⟩
  | false =>
    go_wp2_with fail
    refine (cur_below W0 w1 cb v bs 21 C1.out (by omega) (by omega)).mono ?_
    rintro e w3 ⟨⟨x, rfl, x0, x1⟩, hc3, hg3⟩
    have Z3 := Lib.hid (Z1.out.keptK (kc_grown hg3) (by have := HLT.out; omega))
    have K3 := Lib.hid (K1.out.trans (kc_grown hg3))
    have C3 := Lib.hid hc3
    clear hc3 hg3 Z1 K1 C1
    have HS := Lib.hid (show Sm ⟨ofB (x - 10), ofL (x - 10), oneL⟩ from sm_int (n := x - 10) (by omega))
    go_wp2_with fail
    refine (spec_ratFromIntL (x - 10) w3 (by omega)).mono ?_
    rintro e w4 ⟨v4, d4, rfl, o4, b4⟩
    obtain ⟨a9, c9, e9, f9, rfl, rfl⟩ := o4.slices
    have Z4 := Z3.out.below b4
    have hsz := K3.out.size
    have z0 := Z4.c0
    have z1 := Z4.c1
    have z2 := Z4.c2
    have x0' := Z4.f 0
    have x1' := Z4.f 1
    have x2' := Z4.f 2
    have D8 := Z4.set3 (.bool (ofB (x - 10))) (.slice a9 (ofL (x - 10)).length c9) (.slice e9 oneL.length f9)
    have hc0 := D8.c0
    have hc1 := D8.c1
    have hc2 := D8.c2
    have hne := HLT.out
    have hb0 := HB0.out
    have K8 := Lib.hid (show Kc cb w (((w4.setCell ⟨w.heap.size, 0, none⟩ (.bool (ofB (x - 10)))).setCell ⟨w.heap.size, 1, none⟩ (.slice a9 (ofL (x - 10)).length c9)).setCell ⟨w.heap.size, 2, none⟩ (.slice e9 oneL.length f9)) from kept_new (kept_new (kept_new (K3.out.trans (Kept.of_below b4)) _ 0 (Nat.le_refl _) _) _ 1 (Nat.le_refl _) _) _ 2 (Nat.le_refl _) _)
    have C8 := Lib.hid ((((cur_back C3.out b4).far w.heap.size 0 hb0 (by omega) (.bool (ofB (x - 10)))).far w.heap.size 1 hb0 (by omega) (.slice a9 (ofL (x - 10)).length c9)).far w.heap.size 2 hb0 (by omega) (.slice e9 oneL.length f9))
    have O8 := Lib.hid ((o4.set3 Z4.rx (by decide) (.slice a9 (ofL (x - 10)).length c9) (.slice e9 oneL.length f9) (b' := (ofB (x - 10)))).base hsz)
    clear D8 o4 b4 Z4 hne hb0 hsz
    go_wp2_with fail
    exact bodyPost_ret (v := .agg #[.bool (ofB (x - 10)), .slice a9 (ofL (x - 10)).length c9, .slice e9 oneL.length f9]) (by simp [results, Try.results83, go_sem, hc0, hc1, hc2]) rfl ⟨⟨(ofB (x - 10)), (ofL (x - 10)), oneL⟩, _, _, rfl, HS.out, O8.out, C8.out, K8.out⟩


theorem kept_grownNew {S : Nat → Prop} {w w' w'' : World} {row : Option Nat} (h : Kept S w w') (hg : w'.grownBy w'' row) (hr : ∀ g, row = some g → w.heap.size ≤ g) : Kept S w w'' :=
  ⟨hg.os.trans h.os, hg.tape.trans h.tape, hg.output.trans h.output, Nat.le_trans h.size hg.size, fun k hk hn => (hg.block k (Nat.lt_of_lt_of_le hk h.size) (fun e => by have := hr k e.symm; omega)).trans (h.block k hk hn)⟩
set_option maxHeartbeats 1000000 in
theorem draw_vec (W0 w : World) (cb : Nat) (v : Value) (bs : List UInt8) (n : Nat) (hn : n ≤ 100) (h : Cur W0 w cb v bs) :
    Calls Try.prog 50 #[.pointer (some ⟨cb, 0, none⟩), .int .i64 (n : Int)] w fun e w' => ∃ u L xs, e = .returned u ∧ L.length = n ∧ (∀ f ∈ L, Sm f) ∧ OwnV w' w.heap.size u L xs ∧ Cur W0 w' cb v bs ∧ Kc cb w w' := by
  have HLT := Lib.hid h.lt
  have HB0 := Lib.hid h.below.size
  have H := Lib.hid h
  clear h
  go_enter Try.func50, Try.ntmps50
  go_wp2_with fail
  obtain ⟨W1, hW1⟩ : ∃ x, x = w.alloc (.cells #[] 42) := ⟨_, rfl⟩
  have b1 := (show Below w.heap.size w W1 by rw [hW1]; exact (Below.refl _ _).alloc (Nat.le_refl _) _)
  have HO := Lib.hid (show OwnV W1 w.heap.size (.slice (some ⟨w.heap.size, 0, none⟩) 0 0) [] [] by rw [hW1]; exact OwnV.lit0 w)
  have HC := Lib.hid (cur_back H.out b1)
  have HK := Lib.hid (show Kc cb w W1 from Kept.of_below b1)
  rw [← hW1]
  clear hW1 b1 H
  go_loopw [5] (fun ov wr => ∃ (k : Nat) (a : Option Addr) (c : Nat) (L : List Fr), k ≤ n ∧ Value.slice a k c = ov ∧ Hid (L.length = k ∧ ∀ f ∈ L, Sm f) ∧ ∃ xs, Hid (OwnV wr w.heap.size (.slice a k c) L xs) ∧ Hid (Cur W0 wr cb v bs) ∧ Hid (Kc cb w wr)) (fun ov _ => n - (match ov with | .slice _ k _ => k | _ => 0))
  case atStart => exact ⟨0, _, _, [], Nat.zero_le _, rfl, Lib.hid ⟨rfl, fun f hf => by simp at hf⟩, _, HO, HC, HK⟩
  case round =>
    clear HO HC HK
    obtain ⟨k, a, c, L, hk, rfl, HL, xs, HO, HC, HK⟩ := hrel
    by_cases hlt : k < n
    · have L9 := Lib.hid HO.out.lt
      have BW := Lib.hid HK.out.size
      go_wp2_with fail
      refine (draw_number W0 wr cb v bs HC.out).mono ?_
      rintro e w_r ⟨f, x_r, y_r, rfl, hf, o_r, cu_r, k_r⟩
      obtain ⟨a_r, c_r, e_r, f_r, rfl, rfl⟩ := o_r.slices
      have hbb := k_r.size
      have lr := o_r.lt
      have OO := HO.out.kept k_r (fun j hj e => by have := (L9.out j hj).1; have := HLT.out; omega)
      have CU := Lib.hid cu_r
      have KR := Lib.hid k_r
      have HLL := Lib.hid HL.out.1
      clear cu_r k_r
      go_wp2_with (at_builtin; refine append_rat rfl _ _ rfl w.heap.size _ _ xs rfl (OO.alloc _) (by rw [HLL.out]; omega) (by have := BW.out; simp; omega) _ _ rfl f _ _ (World.alloc_heap_new _ _) (OwnR.base (o_r.alloc _) BW.out) (fun i hi r r' h1 h2 => by have h3 := (L9.out r (.inr ⟨_, List.getElem_mem hi, h1⟩)).2; have h4 := (lr r' h2).1; omega) (fun r h2 h1 => by have h3 := (L9.out r (.inl h1)).2; have h4 := (lr r h2).1; omega) ?_; intro v_n w_n o_n g_n l_n)
      obtain ⟨a_n, c_n, hv⟩ := o_n.slice
      rw [List.length_append, List.length_singleton, HLL.out] at hv
      subst hv
      have ba := (Below.refl w_r.heap.size w_r).alloc (Nat.le_refl _) (.cells #[.bool f.neg, .slice a_r f.mag.length c_r, .slice e_r f.den.length f_r] 42)
      exact ⟨⟨k + 1, a_n, c_n, _, by omega, rfl, Lib.hid ⟨by rw [List.length_append, List.length_singleton, HLL.out], fun g hg => by
          rcases List.mem_append.1 hg with hg | hg
          · exact HL.out.2 g hg
          · obtain rfl := List.mem_singleton.1 hg; exact hf⟩, _, Lib.hid o_n,
        Lib.hid ((cur_back CU.out ba).kept g_n (fun q hq => by have h9 := (L9.out q (.inl hq)).1; have := HLT.out; have := HB0.out; omega)),
        Lib.hid (kept_grownNew ((HK.out.trans KR.out).trans (Kept.of_below ba)) g_n (fun q hq => (L9.out q (.inl hq)).1))⟩, by show n - (k + 1) < n - k; omega⟩
    · obtain rfl : k = n := by omega
      go_wp2
      go_ret
      first
        | exact ⟨_, L, xs, rfl, HL.out.1, HL.out.2, HO.out, HC.out, HK.out⟩
        | exact ⟨_, rfl, L, HL.out.1, HL.out.2, ⟨xs, HO.out⟩, HC.out, HK.out⟩
set_option maxHeartbeats 1000000 in
theorem draw_mat (W0 w : World) (cb : Nat) (v : Value) (bs : List UInt8) (R C n : Nat) (hn : n ≤ 100) (hRC : (R : Int) * (C : Int) = (n : Int)) (h : Cur W0 w cb v bs) :
    Calls Try.prog 48 #[.pointer (some ⟨cb, 0, none⟩), .int .i64 (R : Int), .int .i64 (C : Int)] w fun e w' => ∃ u L xs, e = .returned (.agg #[.int .i64 (R : Int), .int .i64 (C : Int), u]) ∧ L.length = n ∧ (∀ f ∈ L, Sm f) ∧ OwnV w' w.heap.size u L xs ∧ Cur W0 w' cb v bs := by
  have HLT := Lib.hid h.lt
  have HB0 := Lib.hid h.below.size
  obtain ⟨w0, hw0⟩ : ∃ x, x = w.alloc (.cells #[.int .i64 0, .int .i64 0, .slice none 0 0] 25) := ⟨_, rfl⟩
  have Z := Lib.hid (show B3 w0 w.heap.size 25 (.int .i64 0) (.int .i64 0) (.slice none 0 0) by rw [hw0]; exact B3.new _ _ _ _ _)
  have b0 := (show Below w.heap.size w w0 by rw [hw0]; exact (Below.refl _ _).alloc (Nat.le_refl _) _)
  have HC := Lib.hid (cur_back h b0)
  have HS := Lib.hid b0.size
  have HW := Lib.hid hw0.symm
  clear hw0 b0 h
  go_enter Try.func48, Try.ntmps48
  go_wp2_with (rw [HW.out])
  refine (draw_vec W0 w0 cb v bs n hn HC.out).mono ?_
  rintro e w4 ⟨u, L, xs, rfl, hL, hS, o4, c4, k4⟩
  obtain ⟨a9, c9, rfl⟩ := o4.slice
  rw [hL] at o4 ⊢
  have hne := HLT.out
  have hb0 := HB0.out
  have Z4 := Z.out.keptK k4 (by omega)
  have z0 := Z4.c0
  have z1 := Z4.c1
  have z2 := Z4.c2
  have x0' := Z4.f 0
  have x1' := Z4.f 1
  have x2' := Z4.f 2
  have D8 := Z4.set3 (.int .i64 (R : Int)) (.int .i64 (C : Int)) (.slice a9 n c9)
  have hc0 := D8.c0
  have hc1 := D8.c1
  have hc2 := D8.c2
  have C8 := Lib.hid (((c4.far w.heap.size 0 hb0 (by omega) (.int .i64 (R : Int))).far w.heap.size 1 hb0 (by omega) (.int .i64 (C : Int))).far w.heap.size 2 hb0 (by omega) (.slice a9 n c9))
  have O8 := Lib.hid ((o4.set3_b3 Z4 (by decide) (by decide) (.int .i64 (R : Int)) (.int .i64 (C : Int)) (.slice a9 n c9)).base HS.out)
  have HL := Lib.hid (And.intro hL hS)
  clear D8 o4 Z4 c4 k4 hne hb0 hL hS
  go_wp2_with fail
  exact bodyPost_ret (v := .agg #[.int .i64 (R : Int), .int .i64 (C : Int), .slice a9 n c9]) (by simp [results, Try.results48, go_sem, hc0, hc1, hc2]) rfl ⟨_, L, xs, rfl, HL.out.1, HL.out.2, O8.out, C8.out⟩
set_option maxHeartbeats 1000000 in
theorem make_vec (v : Value) (bs : List UInt8) (j : Int) (n : Nat) (hn : n ≤ 100) (w : World) (h : RowOf u8V w v bs) (hb : bs.length ≤ 1048576) (hj : j ≤ 1000000) :
    Calls Try.prog 13 #[v, .int .i64 j, .int .i64 (n : Int)] w fun e w' => ∃ u L xs, e = .returned u ∧ L.length = n ∧ (∀ f ∈ L, Sm f) ∧ OwnV w' w.heap.size u L xs ∧ Below w.heap.size w w' := by
  have H := Lib.hid h
  clear h
  go_enter Try.func13, Try.ntmps13
  go_wp2_with fail
  refine (cur_new30 v bs j w H.out hb hj).mono ?_
  rintro e w1 ⟨cb, rfl, hc⟩
  have HC := Lib.hid hc
  clear hc
  go_wp2_with fail
  refine (draw_vec w w1 cb v bs n hn HC.out).mono ?_
  rintro e w2 ⟨u, L, xs, rfl, hL, hS, o2, c2, _⟩
  have O2 := Lib.hid (o2.base HC.out.below.size)
  have C2 := Lib.hid c2.below
  have HL := Lib.hid (And.intro hL hS)
  obtain ⟨a9, c9, rfl⟩ := o2.slice
  clear o2 c2 hL hS
  go_wp2
  go_ret
  first
    | exact ⟨_, L, xs, rfl, HL.out.1, HL.out.2, O2.out, C2.out⟩
    | exact ⟨_, rfl, L, HL.out.1, HL.out.2, ⟨xs, O2.out⟩, C2.out⟩
set_option maxHeartbeats 1000000 in
theorem make_mat (v : Value) (bs : List UInt8) (j : Int) (R C n : Nat) (hn : n ≤ 100) (hRC : (R : Int) * (C : Int) = (n : Int)) (hR : R ≤ 100) (hC : C ≤ 100) (w : World) (h : RowOf u8V w v bs) (hb : bs.length ≤ 1048576) (hj : j ≤ 1000000) :
    Calls Try.prog 12 #[v, .int .i64 j, .int .i64 (R : Int), .int .i64 (C : Int)] w fun e w' => ∃ u L xs, e = .returned (.agg #[.int .i64 (R : Int), .int .i64 (C : Int), u]) ∧ L.length = n ∧ (∀ f ∈ L, Sm f) ∧ OwnV w' w.heap.size u L xs ∧ Below w.heap.size w w' := by
  obtain ⟨w0, hw0⟩ : ∃ x, x = w.alloc (.cells #[.int .i64 0, .int .i64 0, .slice none 0 0] 25) := ⟨_, rfl⟩
  have Z := Lib.hid (show B3 w0 w.heap.size 25 (.int .i64 0) (.int .i64 0) (.slice none 0 0) by rw [hw0]; exact B3.new _ _ _ _ _)
  have b0 := (show Below w.heap.size w w0 by rw [hw0]; exact (Below.refl _ _).alloc (Nat.le_refl _) _)
  have H := Lib.hid (rowOf_below h b0)
  have HB := Lib.hid b0
  have HW := Lib.hid hw0.symm
  clear hw0 b0 h
  go_enter Try.func12, Try.ntmps12
  go_wp2_with (rw [HW.out])
  refine (cur_new30 v bs j w0 H.out hb hj).mono ?_
  rintro e w1 ⟨cb, rfl, hc⟩
  have HC := Lib.hid hc
  clear hc
  go_wp2_with fail
  refine (draw_mat w0 w1 cb v bs R C n hn hRC HC.out).mono ?_
  rintro e w4 ⟨u, L, xs, rfl, hL, hS, o4, c4⟩
  obtain ⟨a9, c9, rfl⟩ := o4.slice
  rw [hL] at o4 ⊢
  have Z4 := Z.out.below c4.below
  have b4 := HB.out.trans (c4.below.mono HB.out.size)
  have z0 := Z4.c0
  have z1 := Z4.c1
  have z2 := Z4.c2
  have x0' := Z4.f 0
  have x1' := Z4.f 1
  have x2' := Z4.f 2
  have D8 := Z4.set3 (.int .i64 (R : Int)) (.int .i64 (C : Int)) (.slice a9 n c9)
  have hc0 := D8.c0
  have hc1 := D8.c1
  have hc2 := D8.c2
  have B8 := Lib.hid (((b4.setCell (p := ⟨w.heap.size, 0, none⟩) (Nat.le_refl _) (.int .i64 (R : Int))).setCell (p := ⟨w.heap.size, 1, none⟩) (Nat.le_refl _) (.int .i64 (C : Int))).setCell (p := ⟨w.heap.size, 2, none⟩) (Nat.le_refl _) (.slice a9 n c9))
  have O8 := Lib.hid ((o4.set3_b3 Z4 (by decide) (by decide) (.int .i64 (R : Int)) (.int .i64 (C : Int)) (.slice a9 n c9)).base (Nat.le_trans HB.out.size HC.out.below.size))
  have HL := Lib.hid (And.intro hL hS)
  clear D8 o4 Z4 c4 b4 hL hS
  go_wp2_with fail
  exact bodyPost_ret (v := .agg #[.int .i64 (R : Int), .int .i64 (C : Int), .slice a9 n c9]) (by simp [results, Try.results12, go_sem, hc0, hc1, hc2]) rfl ⟨_, L, xs, rfl, HL.out.1, HL.out.2, O8.out, B8.out⟩

end Go.Proofs.Ytojklmckjebplaa
