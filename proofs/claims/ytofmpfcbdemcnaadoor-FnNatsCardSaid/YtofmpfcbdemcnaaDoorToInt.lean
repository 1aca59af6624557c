/- toInt of the program: the number, if it is an int. -/
import Derived.Test.YtofmpfcbdemcnaaDoorBack
namespace Go.Proofs.YtofmpfcbdemcnaaDoor
open Go.RowKit Go.Shelf

attribute [local go_sem] Oper.semAt_some

/-- what stands at the places of a row of limbs -/
def VL (x : Nat) : Nat → Int → Prop := fun i z => z = (dig x i : Int)
theorem rd_limbs {x n cap : Nat} {a : Option Addr} {w : World} (h : RowOf iV w (.slice a n cap) (limI x)) : Rd (VL x) a n w := by
  obtain ⟨_, _, e, _, _, hr⟩ := h
  injection e with e1 e2 e3
  subst e1 e2
  intro i hi
  obtain ⟨b, o, e, hx⟩ := hr i hi
  rw [limI_get] at hx
  exact ⟨b, o, _, e, rfl, hx⟩
theorem rd_below {V : Nat → Int → Prop} {a : Option Addr} {n : Nat} {w w' : World} (h : Rd V a n w) (hb : Below w.heap.size w w') : Rd V a n w' := by
  intro i hi
  obtain ⟨b, o, z, e, hv, hx⟩ := h i hi
  exact ⟨b, o, z, e, hv, (hb.cell (p := ⟨b, o + i, none⟩) (by have := World.block_lt_of_cell? w _ hx; simpa using this)).trans hx⟩

def nfold (x : Nat) (l : List Nat) : Nat := l.foldl (fun m i => m * 1000000000 + dig x i) 0
theorem nfold_snoc (x : Nat) (l : List Nat) (i : Nat) : nfold x (l ++ [i]) = nfold x l * 1000000000 + dig x i := by simp [nfold]
theorem nfold_desc (x n : Nat) (hx : x < pw n) : ∀ k, k ≤ n → nfold x (descN n k) = x / pw (n - k)
  | 0, _ => by rw [descN_zero, Nat.sub_zero, Nat.div_eq_of_lt hx]; rfl
  | k + 1, h => by
    rw [descN_succ, nfold_snoc, nfold_desc x n hx k (by omega)]
    have := div_step x (n - 1 - k)
    rw [show n - 1 - k + 1 = n - k by omega] at this
    rw [show n - (k + 1) = n - 1 - k by omega, this]

def intR (x : Nat) : Value := .tuple #[.int .i64 (if x ≤ 9223372036854775807 then (x : Int) else 0), .bool (decide (x ≤ 9223372036854775807))]
theorem intR_yes {x : Nat} (h : x ≤ 9223372036854775807) : intR x = .tuple #[.int .i64 x, .bool true] := by unfold intR; rw [if_pos h, decide_eq_true h]
theorem intR_no {x : Nat} (h : ¬ x ≤ 9223372036854775807) : intR x = .tuple #[.int .i64 0, .bool false] := by unfold intR; rw [if_neg h, decide_eq_false h]

theorem rd_block {V : Nat → Int → Prop} {a : Option Addr} {n : Nat} {w : World} (h : Rd V a n w) : ∀ b o, a = some ⟨b, o, none⟩ → 0 < n → b < w.heap.size := fun b o e hn => by
  obtain ⟨b', o', z, e', _, hx⟩ := h 0 hn
  rw [e] at e'
  injection e' with e'
  injection e' with e1 e2
  subst e1 e2
  exact World.block_lt_of_cell? w _ hx
/-- the world behind a function's return: the block for the rounds' deferred calls is shut -/
theorem boxed_shut {W : World} {B D : Nat} {t : TypeId} {v : Value} (h : Boxed W B t v) (hK : W.heap[D]? = some (.deferred (some []))) : (W.putObj D (.deferred none)).cell? ⟨B, 0, none⟩ = some v := by
  refine Boxed.cell (t := t) (h.kept (grownBy_putObj' W D (.deferred none)) (fun e => ?_))
  injection e with e
  subst e
  rw [show W.heap[B]? = _ from h] at hK
  cases hK
theorem below_shut {W w : World} {D h : Nat} (hb : Below h w W) (hD : h ≤ D) (hW : h ≤ W.heap.size) : Below h w (W.putObj D (.deferred none)) :=
  hb.grown (grownBy_putObj' W D (.deferred none)) hW (fun k e => by injection e with e; omega)

set_option maxRecDepth 100000 in
set_option maxHeartbeats 2000000 in
theorem impl_toInt (v : Value) (x : Nat) (w : World) (h : RowOf iV w v (limI x)) (hx : nlen x ≤ 1000) :
    Calls Tryd.prog 61 #[v] w fun e w' => e = .returned (intR x) ∧ Below w.heap.size w w' := by
  have H := Lib.hid h
  obtain ⟨a, cap, rfl, h1, h2, h3⟩ := h
  clear h1 h2 h3
  rw [limI_length] at H ⊢
  have hrd := Lib.hid (rd_limbs H.out)
  have HF := Lib.hid (nfold_desc x (nlen x) (lt_pw_nlen x))
  have hab := Lib.hid (rd_block hrd.out)
  obtain ⟨n, hn⟩ : ∃ n, nlen x = n := ⟨_, rfl⟩
  rw [hn] at hx H hrd HF hab ⊢
  clear hn
  refine (callsIn_wide (n := 3)).1 ?_
  refine callsIn_of_wp_marks Tryd.func61 rfl trivial ?_ rfl
  simp only [Tryd.ntmps61, List.size_toArray, List.length_cons, List.length_nil, Nat.reduceAdd, Nat.reduceSub, Array.replicate_succ, Array.replicate_zero, List.push_toArray, List.append_toArray, List.nil_append, List.cons_append]
  gi_wp2_with (refine ⟨trivial, ?_⟩; gi_at_call 66; refine (back_in Fence.wide _ trivial rfl _ _ _ _).mono ?_; rintro e w' ⟨rfl, rfl⟩)
  have b0 := Boxed.new w 3 (.int .i64 0)
  have b1 := Boxed.new (w.alloc (.cells #[.int .i64 0] 3)) 4 (.bool false)
  have b2 := Boxed.new ((w.alloc (.cells #[.int .i64 0] 3)).alloc (.cells #[.bool false] 4)) 3 (.int .i64 0)
  have b3 := Boxed.new (((w.alloc (.cells #[.int .i64 0] 3)).alloc (.cells #[.bool false] 4)).alloc (.cells #[.int .i64 0] 3)) 53 (.slice a n cap)
  have bB : Below w.heap.size w ((((w.alloc (.cells #[.int .i64 0] 3)).alloc (.cells #[.bool false] 4)).alloc (.cells #[.int .i64 0] 3)).alloc (.cells #[.slice a n cap] 53)) :=
    ((((Below.refl _ w).alloc (Nat.le_refl _) _).alloc (by simp) _).alloc (by simp; omega) _).alloc (by simp; omega) _
  have B0 := Lib.hid (((b0.alloc (.cells #[.bool false] 4)).alloc (.cells #[.int .i64 0] 3)).alloc (.cells #[.slice a n cap] 53))
  have B1 := Lib.hid ((b1.alloc (.cells #[.int .i64 0] 3)).alloc (.cells #[.slice a n cap] 53))
  have B2 := Lib.hid (b2.alloc (.cells #[.slice a n cap] 53))
  have B3 := Lib.hid b3
  have BB := Lib.hid bB
  have BS := Lib.hid (show ((((w.alloc (.cells #[.int .i64 0] 3)).alloc (.cells #[.bool false] 4)).alloc (.cells #[.int .i64 0] 3)).alloc (.cells #[.slice a n cap] 53)).heap.size = w.heap.size + 1 + 1 + 1 + 1 by simp)
  have BR := Lib.hid (rd_below hrd.out bB)
  clear b0 b1 b2 b3 bB
  simp only [World.size_alloc] at B0 B1 B2 B3
  generalize (((w.alloc (.cells #[.int .i64 0] 3)).alloc (.cells #[.bool false] 4)).alloc (.cells #[.int .i64 0] 3)).alloc (.cells #[.slice a n cap] 53) = W0 at B0 B1 B2 B3 BB BS BR ⊢
  obtain ⟨h, hh⟩ : ∃ h, w.heap.size = h := ⟨_, rfl⟩
  rw [hh] at B0 B1 B2 B3 BB BS hab ⊢
  have HH := Lib.hid hh
  clear hh
  have hS : W0.heap.size = h + 1 + 1 + 1 + 1 := BS.out
  have HS := Lib.hid hS
  refine wpIn_rangeFunc_ownG rfl (by omega) (gf := 84) (lb := #[.pointer (some ⟨h + 1 + 1 + 1, 0, none⟩)]) rfl trivial (enters_of Tryd.func84 (by kernel_rfl) rfl)
    (back_stops Fence.wide _ trivial rfl (by omega) (h + 1 + 1 + 1) h n cap a (VL x) (by omega) W0 B3.out.cell BR.out) (fun h k => KpB.trans h k) (KpB.putObj (by omega) (by omega) (fun b o e hl => by have := hab.out b o e hl; omega)) (Below.refl _ _) (fun _ => rfl)
    (fun pre W => (Boxed W h 3 (.int .i64 0) ∧ Boxed W (h + 1) 4 (.bool false) ∧ Boxed W (h + 1 + 1) 3 (.int .i64 (nfold x (pre.map idx) : Nat)) ∧ nfold x (pre.map idx) ≤ 9223372036854775807) ∧ Below h w W)
    (fun c pre W => (c = .ret ∧ Boxed W h 3 (.int .i64 0) ∧ Boxed W (h + 1) 4 (.bool false) ∧ 9223372036854775807 < nfold x (pre.map idx)) ∧ Below h w W)
    (OwnFrom.and (Own.from (fun s A B row hs hg hr => ⟨boxed_own _ _ (fun _ : List (BackA n (VL x)) => _) s A B row hs.1 hg hr, boxed_own _ _ (fun _ : List (BackA n (VL x)) => _) s A B row hs.2.1 hg hr, boxed_own _ _ (fun s : List (BackA n (VL x)) => .int .i64 (nfold x (s.map idx) : Nat)) s A B row hs.2.2.1 hg hr, hs.2.2.2⟩) _) (ownFrom_below (by rw [HH.out]; exact Nat.le_refl _) (by omega)))
    (fun c => OwnFrom.and (Own.from (fun s A B row hs hg hr => ⟨hs.1, boxed_own _ _ (fun _ : List (BackA n (VL x)) => _) s A B row hs.2.1 hg hr, boxed_own _ _ (fun _ : List (BackA n (VL x)) => _) s A B row hs.2.2.1 hg hr, hs.2.2.2⟩) _) (ownFrom_below (by rw [HH.out]; exact Nat.le_refl _) (by omega)))
    ⟨⟨B0.out, B1.out, B2.out, by simp [nfold]⟩, BB.out⟩
    (fun y => { tmps := #[.slice a n cap, undef, .pointer (some ⟨h, 0, none⟩), .pointer (some ⟨h + 1, 0, none⟩), .pointer (some ⟨h + 1 + 1, 0, none⟩), undef, .int .i64 y.1.2, .slice a n cap, .func (.func 84) #[] #[.pointer (some ⟨h + 1 + 1 + 1, 0, none⟩)], .int .i64 (y.1.1 : Int), .int .i64 y.1.2, undef, undef, undef, undef, undef, undef, undef, undef, undef, undef], defers := [] }) ?assign ?body ?done ?stop
  case assign =>
    intro l y W K hK
    gi_wp2
    exact hK
  case body =>
    rintro l pre y W ⟨⟨h0, h1, h2, hle⟩, hB⟩ _
    have HF1 := Lib.hid (nfold_snoc x (pre.map idx) y.1.1)
    have hd := dig_lt x y.1.1
    have hy : y.1.2 = (dig x y.1.1 : Int) := y.2.2
    have hmap : Hid ((pre ++ [y]).map idx = pre.map idx ++ [y.1.1]) := by unfold Hid; rw [List.map_append]; rfl
    rw [hy]
    obtain ⟨d, hde⟩ : ∃ d, dig x y.1.1 = d := ⟨_, rfl⟩
    rw [hde] at hd HF1 ⊢
    obtain ⟨m, hm⟩ : ∃ m, nfold x (pre.map idx) = m := ⟨_, rfl⟩
    rw [hm] at h2 hle HF1
    have K0 := Lib.hid h0
    have K1 := Lib.hid h1
    have K2 := Lib.hid h2
    have KB := Lib.hid hB
    have c0 := h0.cell
    have f0 := h0.frozen
    have c1 := h1.cell
    have f1 := h1.frozen
    have c2 := h2.cell
    have f2 := h2.frozen
    have hab1 := Lib.hid (fun b o e hl => Nat.ne_of_lt (hab.out b o e hl))
    clear hde hm h0 h1 h2 hB hy
    by_cases hgo : (m : Int) ≤ (9223372036854775807 - (d : Int)) / 1000000000
    · gi_wp2
      refine ⟨(KeepsOthers.setCell _ _ _).from _, KpB.setCell _ (by simp; omega) (by simp) (fun b o e hl => by have := hab.out b o e hl; simp; omega) _, ⟨K0.out.other (by omega) _, K1.out.other (by omega) _, ?_, ?_⟩, KB.out.setCell (p := ⟨h + 1 + 1, 0, none⟩) (by simp; omega) _⟩
      · rw [hmap.out, HF1.out]
        exact K2.out.set _
      · rw [hmap.out, HF1.out]; omega
    · gi_wp2
      refine ⟨((KeepsOthers.setCell _ _ _).trans (KeepsOthers.setCell _ _ _)).from _, ⟨rfl, (K0.out.set _).other (by omega) _, (K1.out.other (by omega) _).set _, ?_⟩, (KB.out.setCell (p := ⟨h, 0, none⟩) (Nat.le_refl _) _).setCell (p := ⟨h + 1, 0, none⟩) (by simp) _⟩
      rw [hmap.out, HF1.out]; omega
  case done =>
    rintro D ys W hD hS ⟨⟨h0, h1, h2, hle⟩, hB⟩ hK
    have hf := HF.out n (Nat.le_refl _)
    rw [Nat.sub_self, pw_zero, Nat.div_one] at hf
    rw [hS, hf] at h2 hle
    have K0 := Lib.hid h0
    have K1 := Lib.hid h1
    have KB := Lib.hid hB
    have HK := Lib.hid hK
    have c0 := h0.cell
    have f0 := h0.frozen
    have c1 := h1.cell
    have f1 := h1.frozen
    have c2 := h2.cell
    have HR := Lib.hid (intR_yes hle)
    have HDD := Lib.hid hD
    clear hf hS h0 h1 h2 hB hK hle hD
    gi_wp2
    have hK' := ((KeepsOthers.setCell W ⟨h, 0, none⟩ (.int .i64 x)).trans (KeepsOthers.setCell _ ⟨h + 1, 0, none⟩ (.bool true))).same D _ HK.out rfl
    have e0 := boxed_shut ((K0.out.set (.int .i64 x)).other (B' := h + 1) (by omega) (.bool true)) hK'
    have e1 := boxed_shut ((K1.out.other (B' := h) (by omega) (.int .i64 x)).set (.bool true)) hK'
    have hBl := (KB.out.setCell (p := ⟨h, 0, none⟩) (Nat.le_refl _) (.int .i64 x)).setCell (p := ⟨h + 1, 0, none⟩) (by simp) (.bool true)
    refine ⟨by simp, .inl ⟨_, _, rfl, run_takeDeferred hK', ?_⟩⟩
    refine ⟨.tuple #[.int .i64 x, .bool true], ?_, by rw [HR.out], by rw [HH.out]; exact below_shut hBl (by have := HDD.out; omega) (by have := hBl.size; rw [HH.out] at this; exact this)⟩
    simp [results, Tryd.f61, go_sem, e0, e1]
  case stop =>
    rintro D c pre W hD ⟨k, hk, hp⟩ ⟨⟨rfl, h0, h1, hgt⟩, hB⟩ hK
    have hf := HF.out k hk
    rw [hp, hf] at hgt
    have hxl : ¬ x ≤ 9223372036854775807 := by have := Nat.div_le_self x (pw (n - k)); omega
    have HR := Lib.hid (intR_no hxl)
    have e0 := boxed_shut h0 hK
    have e1 := boxed_shut h1 hK
    clear hf hp hgt hxl
    gi_wp2
    refine ⟨by simp, .inl ⟨_, _, rfl, run_takeDeferred hK, ?_⟩⟩
    refine ⟨.tuple #[.int .i64 0, .bool false], ?_, by rw [HR.out], by rw [HH.out]; exact below_shut hB (by omega) (by have := hB.size; rw [HH.out] at this; exact this)⟩
    simp [results, Tryd.f61, go_sem, e0, e1]

end Go.Proofs.YtofmpfcbdemcnaaDoor
