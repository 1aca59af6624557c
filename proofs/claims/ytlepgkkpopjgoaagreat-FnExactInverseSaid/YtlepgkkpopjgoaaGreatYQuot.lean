/- Quot: SpecDiv DivInt Knuth ManyLem ManySt. -/
import Derived.Test.YtlepgkkpopjgoaaGreatYSums
import Derived.Laws.AppendOwnNone
import Derived.Sort.QuietIn
import Derived.Sort.QuietTacIn
import Derived.Sort.BigQuietIn
import Derived.Test.YtlepgkkpopjgoaaGreatYNumb
import Derived.Lib.SliceRun
import Derived.Laws.CopyOwn
import Derived.Deep.RegionWith
namespace Go.Proofs.YtlepgkkpopjgoaaGreat
set_option maxRecDepth 100000
set_option linter.unusedVariables false
set_option linter.unusedSimpArgs false
open Go.RowKit Go.WideShapes Go.ChangeShapes
set_option maxRecDepth 100000
def Apart (v0 v1 : Value) : Prop := ∀ g g', v0.ownBlock = some g → v1.ownBlock = some g' → g ≠ g'
theorem Apart.nil (v : Value) : Apart (.slice none 0 0) v := fun g g' h _ => by simp [Value.ownBlock] at h
theorem OwnI.lit1 (w : World) (B : Nat) (d : Int) (hB : B ≤ w.heap.size) : OwnI (w.alloc (.cells #[.int .i64 d] 3)) B (.slice (some ⟨w.heap.size, 0, none⟩) 1 1) [d] :=
 World.ownsRow_lit (base := B) (e := 3) (size := 1) w #[.int .i64 d] 1 hB (by unfold maxLen; omega) (by simp)
theorem append_none_run {w : World} (T : TypeId) (hT : Tryz.prog.underlying T = some (.slice 3)) (ty : TypeId) (B c : Nat) (v : Value) (l : List Int) (hown : OwnI w B v l) : (Builtin.append_ #[T, T] ty #[v, .slice none 0 c]).run Tryz.prog w = .ok v w := by
 obtain ⟨i0, hi, hz0, hz1, hz2⟩ := info_parts info_int
 rcases hown.2 with ⟨rfl, _⟩ | ⟨g, cap, cur, rfl, _, _, hnc, _⟩
 ·simp [Builtin.append_, run_underlying hT, sizeOf, typeInfo, hi, Builtin.lenOf, Builtin.firstCells]
 ·simp [Builtin.append_, run_underlying hT, sizeOf, typeInfo, hi, Builtin.lenOf, Builtin.firstCells, hnc, storeCells]
theorem append_ints {ops : Array Oper} {rest : List Oper} {o : Oper} {a : Act} {Q : Exit → Act → World → Prop} {w : World} (hgd : o.guard = none) (s x : Operand) (T : TypeId) (hT : Tryz.prog.underlying T = some (.slice 3))
  (ho : o.op = .call { callee := .builtin .append, args := #[s, x], argTypes := #[T, T] })
  (B : Nat) (v vx : Value) (l l2 : List Int) (hs : a.eval s = v) (hown : OwnI w B v l) (hx : a.eval x = vx) (hr : RowOf iV w vx l2)
  (hn : l.length + l2.length ≤ 1099511627776) (hB : B ≤ w.heap.size)
  (h : ∀ v' w', OwnI w' B v' (l ++ l2) → w.grownBy w' v.ownBlock → wpList Tryz.prog ops Q rest (a.put o.dst v') w') : wpList Tryz.prog ops Q (o :: rest) a w := by
 obtain ⟨i0, hi, hz0, hz1, hz2⟩ := info_parts info_int
 obtain ⟨ax, c, rfl, hc, hm, hcell⟩ := hr
 cases ax with
 | none =>
  have hl2 : l2 = [] := by
   cases l2 with
   | nil => rfl
   | cons y r => obtain ⟨b, o, e, _⟩ := hcell 0 (by simp); cases e
  subst hl2
  refine wpList_plain hgd fun K hK => ?_
  have hrun := append_none_run (w := w) T hT o.type B c v l hown
  unfold Oper.wp
  simp only [List.length_nil] at hx
  simp [execOp, ho, resolve, invoke, builtin, hs, hx, hrun, Result.andThen]
  exact hK _ _ (h v w (by rw [List.append_nil]; exact hown) (grownBy_refl _ _))
 | some ad =>
  refine wpList_append_own w hgd s x T ho B 3 i0 (.int .i64 0) 1 8 hT hi hz0 hz1 hz2 rfl (by decide) v l.length (l.map iV) hs hown ad l2.length c (l2.map iV) hx (by simp) ?_ (by simp [Value.oneCell', iV]) (by unfold maxLen; omega) (by omega) hB ?_
  ·intro j u hj
   obtain ⟨hjl, hje⟩ := List.getElem?_eq_some_iff.1 hj
   have hjl2 : j < l2.length := by simpa using hjl
   obtain ⟨b, o', e, hx'⟩ := hcell j hjl2
   injection e with e
   subst e
   rw [add_plain, hx', ← hje]
   simp
  ·intro v' w' h1 h2 _
   refine h v' w' ?_ h2
   unfold OwnI
   simpa using h1
set_option maxHeartbeats 400000 in
theorem spec_trimB (v : Value) (T n B : Nat) (w : World) (h : OwnI w B v (listF n (digF T))) (hT : nlen T ≤ n) :
  Calls Tryz.prog 157 #[v] w fun e w' => ∃ v', e = .returned v' ∧ OwnI w B v' (limI T) ∧ (∀ k, v'.ownBlock = some k → v.ownBlock = some k) ∧ w' = w := by
 rcases h.form with ⟨rfl, hl⟩ | ⟨g, c, hv, hB, hg⟩
 ·have hn : n = 0 := by have := congrArg List.length hl; rw [listF_length] at this; simpa using this
  have hT0 : limI T = [] := by
   have : nlen T = 0 := by omega
   unfold limI; rw [this]; rfl
  have HT := Lib.hid hT0
  clear hT0 hl hT h hn
  go_enter Tryz.func157, Tryz.ntmps157
  go_wp2
  go_loop [3] (fun sv => sv = .int .i64 0) (fun _ => 0)
  case atStart => rfl
  case round =>
   subst hrel
   go_wp2
   go_ret
   exact ⟨_, rfl, by rw [HT.out]; exact OwnI.nil _ _, fun k h => h, rfl⟩
 ·rw [listF_length] at hv
  subst hv
  have hcm := h.cap_le
  unfold maxLen at hcm
  have H := Lib.hid h
  clear h hg
  go_enter Tryz.func157, Tryz.ntmps157
  go_wp2
  go_loop [3] (fun sv => ∃ k : Nat, k ≤ n ∧ nlen T ≤ k ∧ sv = .int .i64 k) (fun sv => (intOf sv).toNat)
  case atStart => exact ⟨n, Nat.le_refl _, hT, rfl⟩
  case round =>
   obtain ⟨k, hk, hTk, rfl⟩ := hrel
   by_cases hp : 0 < k
   ·have hcl := H.out.cell (k - 1) (by rw [listF_length]; omega)
    rw [listF_get] at hcl
    unfold digF at hcl
    have e1 : ((k : Int) - 1).toNat = k - 1 := by omega
    have HM := Lib.hid (trim_more hTk hp)
    have HD := Lib.hid (trim_done hTk hp)
    obtain ⟨d, hd⟩ : ∃ d, dig T (k - 1) = d := ⟨_, rfl⟩
    rw [hd] at hcl HM HD
    clear hd
    by_cases h0 : d = 0
    ·have HM2 := Lib.hid (HM.out h0)
     subst h0
     go_wp2
     go_round
     case rel => exact ⟨k - 1, by omega, HM2.out, by go_num⟩
     case measure => simp [intOf]; omega
    ·have HD2 := Lib.hid (HD.out h0)
     have hb : ((d : Int) == 0) = false := by simp; exact h0
     clear h0
     go_wp2
     go_ret
     refine ⟨_, rfl, ?_, fun k h => h, rfl⟩
     have := H.out.take hk
     rw [HD2.out, limI_take (by have := HD2.out; omega)] at this
     have e := HD2.out
     rw [← e] at this
     exact this
   ·obtain rfl : k = 0 := by omega
    have HT : Hid (limI T = []) := by
     unfold Hid
     have : nlen T = 0 := by omega
     unfold limI; rw [this]; rfl
    go_wp2
    go_ret
    refine ⟨_, rfl, ?_, fun k h => h, rfl⟩
    have := H.out.take (Nat.zero_le _)
    rw [List.take_zero] at this
    rw [HT.out]
    exact this
theorem div_step2 {x n j r d : Nat} (hd : 0 < d) (hr : r = x / pw (j + 1) % d) {e : Nat} (he : dig x j = e) : ((r * 1000000000 + e) / d = dig (x / d) j) ∧ ((r * 1000000000 + e) % d = x / pw j % d) ∧ (n = n) := by
 rw [hr, ← he]
 exact ⟨(div_digit x d j hd).1, (div_digit x d j hd).2, rfl⟩
theorem nlen_div {x d : Nat} : nlen (x / d) ≤ nlen x := nlen_mono (Nat.div_le_self _ _)
set_option maxHeartbeats 1000000 in
theorem spec_small (va : Value) (x d : Nat) (w : World) (ha : RowOf iV w va (limI x)) (hd0 : 0 < d) (hd1 : d < 1000000000) (hx : nlen x ≤ 1000) :
  Calls Tryz.prog 179 #[va, .int .i64 d] w fun e w' => ∃ v, e = .returned (.tuple #[v, .int .i64 ((x % d : Nat) : Int)]) ∧ OwnI w' w.heap.size v (limI (x / d)) ∧ Below w.heap.size w w' := by
 have RA := Lib.hid ha
 obtain ⟨aa, ca, rfl, h1, h2, h3⟩ := ha
 clear h1 h2 h3
 rw [limI_length] at RA ⊢
 have HD := Lib.hid (fun (j r e : Nat) hr he => div_step2 (n := 0) (x := x) (j := j) (r := r) (d := d) hd0 hr (e := e) he)
 have HT := Lib.hid (nlen_div (x := x) (d := d))
 have HLT := Lib.hid (lt_pw_nlen x)
 obtain ⟨n, hn⟩ : ∃ n, nlen x = n := ⟨_, rfl⟩
 rw [hn] at hx RA HT HLT ⊢
 have HN := Lib.hid hn
 clear hn
 have hmk := make_ints n (by omega)
 have HO := Lib.hid (zeroObj_own w w.heap.size n (Nat.le_refl _) (by omega))
 have HB := Lib.hid ((Below.refl w.heap.size w).alloc (Nat.le_refl _) (zeroObj n))
 have hdz : ((d : Int) == 0) = false := by simp; omega
 have hd2 : (0 : Int) < (d : Int) := by omega
 go_enter Tryz.func179, Tryz.ntmps179
 go_wp2
 clear hmk
 generalize w.alloc (zeroObj n) = W1 at HO HB ⊢
 obtain ⟨g, hg⟩ : ∃ g, w.heap.size = g := ⟨_, rfl⟩
 rw [hg] at HO HB ⊢
 have HG := Lib.hid hg
 clear hg
 go_loopw [7, 8] (fun rv iv wr => ((∃ j r : Nat, j < n ∧ iv = .int .i64 (j : Int) ∧ rv = .int .i64 r ∧ r < d ∧ Hid (r = x / pw (j + 1) % d) ∧ Hid (OwnI wr g (.slice (some ⟨g, 0, none⟩) n n) (fillD n (j + 1) (digF (x / d)) (fun _ => 0)))) ∨
   (iv = .int .i64 (-1) ∧ rv = .int .i64 ((x % d : Nat) : Int) ∧ Hid (OwnI wr g (.slice (some ⟨g, 0, none⟩) n n) (listF n (digF (x / d)))))) ∧ Hid (Below g w wr)) (fun _ iv _ => (intOf iv + 1).toNat)
 case atStart =>
  refine ⟨?_, HB⟩
  by_cases hl : 0 < n
  ·exact .inl ⟨n - 1, 0, by omega, by go_num, rfl, hd0, by unfold Hid; rw [show n - 1 + 1 = n by omega, Nat.div_eq_of_lt HLT.out, Nat.zero_mod], by rw [show n - 1 + 1 = n by omega, fillD_none]; exact HO⟩
  ·obtain rfl : n = 0 := by omega
   exact .inr ⟨rfl, by have h := HLT.out; rw [pw_zero] at h; rw [show x = 0 by omega, Nat.zero_mod]; rfl, HO⟩
 case round =>
  obtain ⟨hc, HBk⟩ := hrel
  rcases hc with ⟨j, r, hj, rfl, rfl, hr, HR, HK⟩ | ⟨rfl, rfl, HK⟩
  ·obtain ⟨b1, o1, rfl, hx1⟩ := row_limb (rowOf_below RA.out (by rw [HG.out]; exact HBk.out)) (k := j) (by rw [HN.out]; exact hj)
   have hel := dig_lt x j
   have HS := Lib.hid (fun e he => HD.out j r e HR.out he)
   obtain ⟨e, he⟩ : ∃ e, dig x j = e := ⟨_, rfl⟩
   rw [he] at hx1 hel
   have HS1 := Lib.hid (HS.out e he)
   obtain ⟨q, hq⟩ : ∃ q, (r * 1000000000 + e) / d = q := ⟨_, rfl⟩
   obtain ⟨r', hr'⟩ : ∃ r', (r * 1000000000 + e) % d = r' := ⟨_, rfl⟩
   have hrl : r' < d := by rw [← hr']; exact Nat.mod_lt _ hd0
   rw [hq, hr'] at HS1
   have hqi : ((r : Int) * 1000000000 + (e : Int)) / (d : Int) = (q : Int) := by rw [← hq]; simp
   have hri : ((r : Int) * 1000000000 + (e : Int)) % (d : Int) = (r' : Int) := by rw [← hr']; simp
   have hcl := HK.out.cell j (by rw [fillD_length]; exact hj)
   have hfz := HK.out.frozen j
   have HO2 := Lib.hid (HK.out.set j (q : Int))
   have HB2 := Lib.hid (HBk.out.setCell (p := ⟨g, j, none⟩) (Nat.le_refl _) (.int .i64 q))
   have HO3 : Hid (OwnI (wr.setCell ⟨g, j, none⟩ (.int .i64 q)) g (.slice (some ⟨g, 0, none⟩) n n) (fillD n j (digF (x / d)) (fun _ => 0))) := by
    have h := HO2.out
    have e2 := fillD_set (n := n) (k := j) (F := digF (x / d)) (G := fun _ => 0) hj
    rw [show digF (x / d) j = (q : Int) by unfold digF; rw [HS1.out.1]] at e2
    rw [e2] at h
    exact h
   clear hq hr' he HO2
   go_wp2
   go_roundw
   case rel =>
    refine ⟨?_, HB2⟩
    by_cases hj0 : 0 < j
    ·exact .inl ⟨j - 1, r', by omega, by go_num, by rw [hri], hrl, by unfold Hid; rw [show j - 1 + 1 = j by omega]; exact HS1.out.2.1, by rw [show j - 1 + 1 = j by omega]; exact HO3⟩
    ·obtain rfl : j = 0 := by omega
     exact .inr ⟨by go_num, by have h := HS1.out.2.1; rw [pw_zero, Nat.div_one] at h; rw [hri, h], by have h := HO3.out; rw [fillD_full] at h; exact h⟩
   case measure => simp [intOf]
  ·have HT1 := Lib.hid (spec_trim _ (x / d) n g wr HK.out HT.out)
   go_wp2_with fail
   refine HT1.out.mono ?_
   rintro e w2 ⟨v', rfl, o, rfl⟩
   have O := Lib.hid o
   clear o
   go_wp2
   go_ret2
   exact ⟨_, rfl, by rw [HG.out]; exact O.out, by rw [HG.out]; exact HBk.out⟩
theorem cmp_le {y q R : Nat} (hy : 0 < y) : cmpN (y * q) R ≤ 0 ↔ q ≤ R / y := by
 rw [Nat.le_div_iff_mul_le hy, Nat.mul_comm q y]
 unfold cmpN
 split <;> (try split) <;> omega
theorem nlen_mul_small {y q : Nat} (hq : q < 1000000000) : nlen (y * q) ≤ nlen y + 1 := by
 rw [nlen_le_iff, pw_succ]
 exact Nat.mul_lt_mul'' (lt_pw_nlen y) hq
set_option maxHeartbeats 1000000 in
theorem spec_digit (vr vb : Value) (R y : Nat) (w : World) (hr : RowOf iV w vr (limI R)) (hb : RowOf iV w vb (limI y)) (hy0 : 0 < y) (hR : R < y * 1000000000) (hR1 : nlen R ≤ 900) (hy1 : nlen y ≤ 900) :
  Calls Tryz.prog 181 #[vr, vb] w fun e w' => e = .returned (.int .i64 ((R / y : Nat) : Int)) ∧ Below w.heap.size w w' := by
 have RR := Lib.hid hr
 have RB := Lib.hid hb
 obtain ⟨aa, ca, rfl, h1, h2, h3⟩ := hr
 obtain ⟨ab, cb, rfl, h4, h5, h6⟩ := hb
 clear h1 h2 h3 h4 h5 h6
 rw [limI_length] at RR RB ⊢
 rw [limI_length]
 have HC := Lib.hid (fun q => cmp_le (y := y) (q := q) (R := R) hy0)
 have HM := Lib.hid (fun q (h : q < 1000000000) => nlen_mul_small (y := y) h)
 have hgl : R / y < 1000000000 := (Nat.div_lt_iff_lt_mul hy0).2 (by rw [Nat.mul_comm]; exact hR)
 obtain ⟨G, hG⟩ : ∃ G, R / y = G := ⟨_, rfl⟩
 rw [hG] at HC hgl ⊢
 obtain ⟨nr, hnr⟩ : ∃ n, nlen R = n := ⟨_, rfl⟩
 obtain ⟨ny, hny⟩ : ∃ n, nlen y = n := ⟨_, rfl⟩
 rw [hnr] at RR hR1 ⊢
 rw [hny] at RB hy1 HM ⊢
 have HNR := Lib.hid hnr
 have HNY := Lib.hid hny
 clear hnr hny hG hR
 go_enter Tryz.func181, Tryz.ntmps181
 go_wp2
 go_loopw [5, 6] (fun lv hv wr => ∃ lo hi : Nat, lv = .int .i64 lo ∧ hv = .int .i64 hi ∧ lo ≤ G ∧ G ≤ hi ∧ hi ≤ 999999999 ∧ Hid (Below w.heap.size w wr)) (fun lv hv _ => (intOf hv - intOf lv).toNat)
 case atStart => exact ⟨0, 999999999, rfl, rfl, by omega, by omega, by omega, Below.refl _ _⟩
 case round =>
  obtain ⟨lo, hi, rfl, rfl, hlo, hhi, hh, HB⟩ := hrel
  by_cases hlt : lo < hi
  ·obtain ⟨q, hq⟩ : ∃ q, (lo + hi + 1) / 2 = q := ⟨_, rfl⟩
   have hqi : ((lo : Int) + (hi : Int) + 1) / 2 = (q : Int) := by omega
   have hq1 : lo < q := by omega
   have hq2 : q ≤ hi := by omega
   have HQ := Lib.hid hq
   have HCq := Lib.hid (HC.out q)
   have HMq := Lib.hid (HM.out q (by omega))
   clear hq
   go_wp2_with fail
   refine (spec_natOf_nat q _ (by omega)).mono ?_
   rintro e w1 ⟨v1, rfl, o1, b1⟩
   have O1 := Lib.hid o1.row
   have B1 := Lib.hid (HB.out.trans (b1.mono HB.out.size))
   clear o1 b1
   go_wp2_with fail
   refine (spec_mulAny _ _ y q _ (rowOf_below RB.out B1.out) O1.out (by rw [HNY.out]; omega) (by have : nlen q ≤ 1 := (nlen_le_iff _ _).2 (by rw [pw_one]; omega); omega)).mono ?_
   rintro e w2 ⟨v2, rfl, o2, b2⟩
   have O2 := Lib.hid o2.row
   have B2 := Lib.hid (B1.out.trans (b2.mono B1.out.size))
   clear o2 b2
   go_wp2_with fail
   refine (spec_cmp _ _ (y * q) R _ O2.out (rowOf_below RR.out B2.out) (by have := HMq.out; omega) (by rw [HNR.out]; omega)).mono ?_
   rintro e w3 ⟨rfl, b3⟩
   have B3 := Lib.hid (B2.out.trans (b3.mono B2.out.size))
   clear b3
   have hcq := HCq.out
   obtain ⟨c, hc⟩ : ∃ c, cmpN (y * q) R = c := ⟨_, rfl⟩
   rw [hc] at hcq ⊢
   clear hc
   by_cases hle : q ≤ G
   ·have hc0 : c ≤ 0 := hcq.2 hle
    clear hcq
    go_wp2
    go_roundw
    case rel => exact ⟨q, hi, rfl, rfl, hle, hhi, hh, B3⟩
    case measure => simp [intOf]; omega
   ·have hc0 : ¬ c ≤ 0 := fun h => hle (hcq.1 h)
    clear hcq
    go_wp2
    go_roundw
    case rel => exact ⟨lo, q - 1, rfl, by go_num, hlo, by omega, by omega, B3⟩
    case measure => simp [intOf]; omega
  ·obtain rfl : lo = G := by omega
   go_wp2
   go_ret
   exact ⟨rfl, HB.out⟩
theorem cons_lim (r d : Nat) (hd : d < 1000000000) : (d : Int) :: limI r = listF (nlen r + 1) (digF (r * 1000000000 + d)) := by
 apply List.ext_getElem (by simp [limI_length, listF_length])
 intro i h1 h2
 rw [listF_get]
 cases i with
 | zero =>
  rw [List.getElem_cons_zero]
  unfold digF dig
  rw [pw_zero, Nat.div_one]
  omega
 | succ i =>
  rw [List.getElem_cons_succ, limI_get]
  unfold digF dig
  rw [show i + 1 = 1 + i by omega, pw_add, ← Nat.div_div_eq_div_mul, pw_one]
  congr 3
  omega
theorem nlen_cons (r d : Nat) (hd : d < 1000000000) : nlen (r * 1000000000 + d) ≤ nlen r + 1 := by
 rw [nlen_le_iff, pw_succ]
 have := lt_pw_nlen r
 omega
theorem fillD_skip {n k : Nat} {F G : Nat → Int} (h : F k = G k) : fillD n (k + 1) F G = fillD n k F G := by
 refine List.map_congr_left (fun i _ => ?_)
 by_cases e : i = k
 ·subst e; rw [if_neg (by omega), if_pos (by omega), h]
 ·by_cases h1 : k + 1 ≤ i
  ·rw [if_pos h1, if_pos (by omega)]
  ·rw [if_neg h1, if_neg (by omega)]
theorem small_lt {r y d : Nat} (hr : r < y) (hd : d < 1000000000) : r * 1000000000 + d < y * 1000000000 := by
 have : (r + 1) * 1000000000 ≤ y * 1000000000 := Nat.mul_le_mul_right _ hr
 omega
theorem sub_mod {T y : Nat} : T - y * (T / y) = T % y := by
 have := Nat.div_add_mod T y; omega
set_option maxHeartbeats 2000000 in
theorem spec_divMany (va vb : Value) (x y : Nat) (w : World) (ha : RowOf iV w va (limI x)) (hb : RowOf iV w vb (limI y)) (hy0 : 0 < y) (hx : nlen x ≤ 400) (hy : nlen y ≤ 400) (h1 : nlen y ≠ 1) :
  Calls Tryz.prog 158 #[va, vb] w fun e w' => ∃ v0 v1, e = .returned (.tuple #[v0, v1]) ∧ OwnI w' w.heap.size v0 (limI (x / y)) ∧ OwnI w' w.heap.size v1 (limI (x % y)) ∧ Apart v0 v1 ∧ Below w.heap.size w w' := by
 have RA := Lib.hid ha
 have RB := Lib.hid hb
 obtain ⟨aa, ca, rfl, e1, e2, e3⟩ := ha
 obtain ⟨ab, cb, rfl, e4, e5, e6⟩ := hb
 clear e1 e2 e3 e4 e5 e6
 rw [limI_length] at RA RB ⊢
 rw [limI_length]
 have HD := Lib.hid (fun (j r e : Nat) hr he => div_step2 (n := 0) (x := x) (j := j) (r := r) (d := y) hy0 hr (e := e) he)
 have HQ := Lib.hid (nlen_div (x := x) (d := y))
 have HLT := Lib.hid (lt_pw_nlen x)
 have HML := Lib.hid (fun z => Nat.mod_lt z hy0)
 have HNM := Lib.hid (fun z (h : z < y) => nlen_mono (Nat.le_of_lt h))
 obtain ⟨n, hn⟩ : ∃ n, nlen x = n := ⟨_, rfl⟩
 obtain ⟨m, hm⟩ : ∃ n, nlen y = n := ⟨_, rfl⟩
 rw [hn] at hx RA HQ HLT ⊢
 rw [hm] at hy RB h1 HNM ⊢
 have HN := Lib.hid hn
 have HM := Lib.hid hm
 clear hn hm
 have hm1 : ((m : Int) == 1) = false := by simp; omega
 have hmk := make_ints n (by omega)
 have HO := Lib.hid (zeroObj_own w w.heap.size n (Nat.le_refl _) (by omega))
 have HB := Lib.hid ((Below.refl w.heap.size w).alloc (Nat.le_refl _) (zeroObj n))
 have HSZ := Lib.hid (show (w.alloc (zeroObj n)).heap.size = w.heap.size + 1 by simp)
 go_enter Tryz.func158, Tryz.ntmps158
 go_wp2
 clear hmk hm1
 have HO1 := Lib.hid (HO.out.alloc (.cells #[] 3))
 have HB1 := Lib.hid (HB.out.alloc HB.out.size (.cells #[] 3))
 have HR1 := Lib.hid (OwnI.lit0 (w.alloc (zeroObj n)))
 rw [HSZ.out] at HR1
 have HSZ1 := Lib.hid (show ((w.alloc (zeroObj n)).alloc (.cells #[] 3)).heap.size = w.heap.size + 1 + 1 by simp)
 clear HO HB HSZ
 generalize (w.alloc (zeroObj n)).alloc (.cells #[] 3) = W1 at HO1 HB1 HR1 HSZ1 ⊢
 obtain ⟨g, hg⟩ : ∃ g, w.heap.size = g := ⟨_, rfl⟩
 rw [hg] at HO1 HB1 HR1 HSZ1 ⊢
 have HG := Lib.hid hg
 clear hg
 go_loopw [9, 10] (fun rv iv wr => ((∃ j r : Nat, j < n ∧ iv = .int .i64 (j : Int) ∧ r < y ∧ Hid (r = x / pw (j + 1) % y) ∧ Hid (OwnI wr (g + 1) rv (limI r)) ∧ Hid (OwnI wr g (.slice (some ⟨g, 0, none⟩) n n) (fillD n (j + 1) (digF (x / y)) (fun _ => 0)))) ∨
   (iv = .int .i64 (-1) ∧ Hid (OwnI wr (g + 1) rv (limI (x % y))) ∧ Hid (OwnI wr g (.slice (some ⟨g, 0, none⟩) n n) (listF n (digF (x / y)))))) ∧ Hid (Below g w wr) ∧ g + 1 ≤ wr.heap.size) (fun _ iv _ => (intOf iv + 1).toNat)
 case atStart =>
  refine ⟨?_, HB1, by rw [HSZ1.out]; omega⟩
  by_cases hl : 0 < n
  ·exact .inl ⟨n - 1, 0, by omega, by go_num, hy0, by unfold Hid; rw [show n - 1 + 1 = n by omega, Nat.div_eq_of_lt HLT.out, Nat.zero_mod], by rw [limI_zero]; exact HR1, by rw [show n - 1 + 1 = n by omega, fillD_none]; exact HO1⟩
  ·obtain rfl : n = 0 := by omega
   exact .inr ⟨rfl, by have h := HLT.out; rw [pw_zero] at h; rw [show x = 0 by omega, Nat.zero_mod, limI_zero]; exact HR1, HO1⟩
 case round =>
  obtain ⟨hc, HBk, hgs⟩ := hrel
  rcases hc with ⟨j, r, hj, rfl, hr, HR, HV, HK⟩ | ⟨rfl, HV, HK⟩
  ·obtain ⟨rv, rfl⟩ : ∃ rv, rv = u9 := ⟨_, rfl⟩
   obtain ⟨b1, o1, rfl, hx1⟩ := row_limb (rowOf_below RA.out (by rw [HG.out]; exact HBk.out)) (k := j) (by rw [HN.out]; exact hj)
   have hel := dig_lt x j
   have HS := Lib.hid (fun e he => HD.out j r e HR.out he)
   obtain ⟨e, he⟩ : ∃ e, dig x j = e := ⟨_, rfl⟩
   rw [he] at hx1 hel
   have HS1 := Lib.hid (HS.out e he)
   have HT := Lib.hid (cons_lim r e hel)
   have HTn := Lib.hid (nlen_cons r e hel)
   have HTs := Lib.hid (small_lt hr hel)
   have HRn := Lib.hid (HNM.out r hr)
   obtain ⟨T, hT⟩ : ∃ T, r * 1000000000 + e = T := ⟨_, rfl⟩
   rw [hT] at HS1 HT HTn HTs
   clear he hT HS
   have hlen : ([(e : Int)] : List Int).length + (limI r).length ≤ 1099511627776 := by rw [limI_length]; have := HRn.out; simp; omega
   have hcs : g + 1 ≤ (wr.alloc (.cells #[.int .i64 (e : Int)] 3)).heap.size := by simp; omega
   go_wp2_with (at_builtin; refine append_ints rfl _ _ 30 Tryz.underlying30 rfl (g + 1) _ rv [(e : Int)] (limI r) rfl (OwnI.lit1 wr (g + 1) e hgs) rfl (HV.out.alloc _).row hlen hcs ?_; intro v1 w1 h1 hg1)
   have hb1 : Below (g + 1) wr w1 := ((Below.refl (g + 1) wr).alloc hgs _).grown hg1 hcs (fun k hk => ((OwnI.lit1 wr (g + 1) (e : Int) hgs).lt k hk).1)
   have O1 := Lib.hid h1
   have HB2 := Lib.hid (HBk.out.trans (hb1.mono (by omega)))
   have HK1 := Lib.hid (HK.out.other (grownBy_trans (World.grownBy_alloc wr (.cells #[.int .i64 (e : Int)] 3) _) hg1) (fun k k' e1 e2 => Nat.ne_of_lt (Nat.lt_of_lt_of_le ((show g = k by simpa [Value.ownBlock] using e1) ▸ Nat.lt_succ_self g) ((OwnI.lit1 wr (g + 1) (e : Int) hgs).lt k' e2).1)))
   have hs1 : g + 1 ≤ w1.heap.size := Nat.le_trans hgs hb1.size
   clear h1 hg1 hb1
   have O1b : Hid (OwnI w1 (g + 1) v1 (listF (nlen r + 1) (digF T))) := by unfold Hid; rw [← HT.out]; exact O1.out
   go_wp2_with fail
   refine (spec_trim v1 T (nlen r + 1) (g + 1) w1 O1b.out HTn.out).mono ?_
   rintro e w2 ⟨v2, rfl, o2, rfl⟩
   have O2 := Lib.hid o2
   have hTn : nlen T ≤ 500 := by have := HTn.out; have := HRn.out; omega
   clear o2
   go_wp2_with fail
   refine (spec_cmp _ _ T y _ O2.out.row (rowOf_below RB.out (by rw [HG.out]; exact HB2.out)) (by omega) (by rw [HM.out]; omega)).mono ?_
   rintro e w3 ⟨rfl, b3⟩
   have O3 := Lib.hid (O2.out.below b3)
   have HK3 := Lib.hid (HK1.out.below b3)
   have HB3 := Lib.hid (HB2.out.trans (b3.mono (by have := HB2.out.size; rw [HG.out] at this; exact this)))
   have hs3 : g + 1 ≤ w3.heap.size := Nat.le_trans hs1 b3.size
   clear b3
   by_cases hlt : T < y
   ·have hc0 : cmpN T y < 0 := (cmpN_neg T y).2 hlt
    obtain ⟨c, hc⟩ : ∃ c, cmpN T y = c := ⟨_, rfl⟩
    rw [hc] at hc0 ⊢
    have HE : Hid (T = x / pw j % y) := by have h := HS1.out.2.1; rw [Nat.mod_eq_of_lt hlt] at h; exact h
    have HZ : Hid (digF (x / y) j = 0) := by have h := HS1.out.1; rw [Nat.div_eq_of_lt hlt] at h; unfold Hid digF; rw [← h]; rfl
    have HK4 : Hid (OwnI w3 g (.slice (some ⟨g, 0, none⟩) n n) (fillD n j (digF (x / y)) (fun _ => 0))) := by have h := HK3.out; rw [fillD_skip HZ.out] at h; exact h
    clear hc
    go_wp2
    go_roundw
    case rel =>
     refine ⟨?_, HB3, hs3⟩
     by_cases hj0 : 0 < j
     ·exact .inl ⟨j - 1, T, by omega, by go_num, hlt, by unfold Hid; rw [show j - 1 + 1 = j by omega]; exact HE.out, O3, by rw [show j - 1 + 1 = j by omega]; exact HK4⟩
     ·obtain rfl : j = 0 := by omega
      exact .inr ⟨by go_num, by have h := HE.out; rw [pw_zero, Nat.div_one] at h; rw [← h]; exact O3, by have h := HK4.out; rw [fillD_full] at h; exact h⟩
    case measure => simp [intOf]
   ·have hc0 : 0 ≤ cmpN T y := by have := cmpN_neg T y; omega
    obtain ⟨c, hc⟩ : ∃ c, cmpN T y = c := ⟨_, rfl⟩
    rw [hc] at hc0 ⊢
    clear hc
    go_wp2_with fail
    refine (spec_digit _ _ T y _ O3.out.row (rowOf_below RB.out (by rw [HG.out]; exact HB3.out)) hy0 HTs.out (by omega) (by rw [HM.out]; omega)).mono ?_
    rintro e w4 ⟨rfl, b4⟩
    have O4 := Lib.hid (O3.out.below b4)
    have HK4 := Lib.hid (HK3.out.below b4)
    have HB4 := Lib.hid (HB3.out.trans (b4.mono (by have := HB3.out.size; rw [HG.out] at this; exact this)))
    have hs4 : g + 1 ≤ w4.heap.size := Nat.le_trans hs3 b4.size
    clear b4
    have HQ1 := Lib.hid HS1.out.1
    have hql : T / y < 1000000000 := (Nat.div_lt_iff_lt_mul hy0).2 (by rw [Nat.mul_comm]; exact HTs.out)
    have HSM := Lib.hid (sub_mod (T := T) (y := y))
    have HLE : Hid (y * (T / y) ≤ T) := Nat.mul_div_le _ _
    obtain ⟨q, hq⟩ : ∃ q, T / y = q := ⟨_, rfl⟩
    rw [hq] at HQ1 hql HSM HLE ⊢
    clear hq
    have HMq := Lib.hid (nlen_mul_small (y := y) hql)
    have hcl := HK4.out.cell j (by rw [fillD_length]; exact hj)
    have hfz := HK4.out.frozen j
    have HK5 : Hid (OwnI (w4.setCell ⟨g, j, none⟩ (.int .i64 q)) g (.slice (some ⟨g, 0, none⟩) n n) (fillD n j (digF (x / y)) (fun _ => 0))) := by
     have h := HK4.out.set j (q : Int)
     have e2 := fillD_set (n := n) (k := j) (F := digF (x / y)) (G := fun _ => 0) hj
     rw [show digF (x / y) j = (q : Int) by unfold digF; rw [HQ1.out]] at e2
     rw [e2] at h
     exact h
    have O5 := Lib.hid (O4.out.other (setCell_grown w4 g j (.int .i64 q)) (fun k k' e1 e2 => by have := (O4.out.lt k e1).1; simp at e2; omega))
    have HB5 := Lib.hid (HB4.out.setCell (p := ⟨g, j, none⟩) (Nat.le_refl _) (.int .i64 q))
    have hs5 : g + 1 ≤ (w4.setCell ⟨g, j, none⟩ (.int .i64 q)).heap.size := by simp [World.setCell]; exact hs4
    go_wp2_with fail
    generalize w4.setCell ⟨g, j, none⟩ (.int .i64 q) = W5 at HK5 O5 HB5 hs5 ⊢
    clear hcl hfz
    refine (spec_natOf_nat q _ (by omega)).mono ?_
    rintro e w6 ⟨vq, rfl, oq, b6⟩
    have OQ := Lib.hid oq.row
    have O6 := Lib.hid (O5.out.below b6)
    have HK6 := Lib.hid (HK5.out.below b6)
    have HB6 := Lib.hid (HB5.out.trans (b6.mono (by have := HB5.out.size; rw [HG.out] at this; exact this)))
    have hs6 : g + 1 ≤ w6.heap.size := Nat.le_trans hs5 b6.size
    clear oq b6
    go_wp2_with fail
    refine (spec_mulAny _ _ y q _ (rowOf_below RB.out (by rw [HG.out]; exact HB6.out)) OQ.out (by rw [HM.out]; omega) (by have : nlen q ≤ 1 := (nlen_le_iff _ _).2 (by rw [pw_one]; omega); omega)).mono ?_
    rintro e w7 ⟨vm, rfl, om, b7⟩
    have OM := Lib.hid om.row
    have O7 := Lib.hid (O6.out.below b7)
    have HK7 := Lib.hid (HK6.out.below b7)
    have HB7 := Lib.hid (HB6.out.trans (b7.mono (by have := HB6.out.size; rw [HG.out] at this; exact this)))
    have hs7 : g + 1 ≤ w7.heap.size := Nat.le_trans hs6 b7.size
    clear om b7
    go_wp2_with fail
    refine (spec_sub _ _ T (y * q) _ O7.out.row OM.out HLE.out (by omega) (by have := HMq.out; rw [HM.out] at this; omega)).mono ?_
    rintro e w8 ⟨vs, rfl, os, b8⟩
    have OS : Hid (OwnI w8 (g + 1) vs (limI (T % y))) := by rw [← HSM.out]; exact os.base hs7
    have HK8 := Lib.hid (HK7.out.below b8)
    have HB8 := Lib.hid (HB7.out.trans (b8.mono (by have := HB7.out.size; rw [HG.out] at this; exact this)))
    have hs8 : g + 1 ≤ w8.heap.size := Nat.le_trans hs7 b8.size
    have HMt := Lib.hid (HML.out T)
    clear os b8
    go_wp2
    go_roundw
    case rel =>
     refine ⟨?_, HB8, hs8⟩
     by_cases hj0 : 0 < j
     ·exact .inl ⟨j - 1, T % y, by omega, by go_num, HMt.out, by unfold Hid; rw [show j - 1 + 1 = j by omega]; exact HS1.out.2.1, OS, by rw [show j - 1 + 1 = j by omega]; exact HK8⟩
     ·obtain rfl : j = 0 := by omega
      exact .inr ⟨by go_num, by have h := HS1.out.2.1; rw [pw_zero, Nat.div_one] at h; rw [← h]; exact OS, by have h := HK8.out; rw [fillD_full] at h; exact h⟩
    case measure => simp [intOf]
  ·have HT1 := Lib.hid (spec_trimB _ (x / y) n g wr HK.out HQ.out)
   go_wp2_with fail
   refine HT1.out.mono ?_
   rintro e w2 ⟨v', rfl, o, hob, rfl⟩
   have O := Lib.hid o
   have HOB := Lib.hid hob
   clear o hob
   go_wp2
   go_ret2
   refine ⟨_, _, rfl, by rw [HG.out]; exact O.out, by rw [HG.out]; exact HV.out.base (Nat.le_succ _), ?_, by rw [HG.out]; exact HBk.out⟩
   intro k k' e1 e2
   have h1 := HOB.out k e1
   simp [Value.ownBlock] at h1
   have h2 := (HV.out.lt k' e2).1
   omega
end Go.Proofs.YtlepgkkpopjgoaaGreat
namespace Go.Proofs.YtlepgkkpopjgoaaGreat
set_option maxRecDepth 100000
set_option linter.unusedVariables false
set_option linter.unusedSimpArgs false
open Go.RowKit Go.Shelf
set_option maxRecDepth 100000
theorem wide_fn (f : Nat) : Fence.wide.fn f = True := rfl
attribute [local go_sem] Oper.semAt_some wide_fn
theorem ownI_own {β : Type} (B : Nat) (v : Value) (f : β → List Int) : Own (fun s W => OwnI W B v (f s)) := fun s X Y row hs hg hr =>
 hs.other hg (fun g g' e1 e2 he => by
  subst he
  obtain ⟨o, ho, hc⟩ := hr _ e2
  rcases hs.2 with ⟨hv, _⟩ | ⟨g2, cap, cur, hv, _, hgb, _⟩
  ·rw [hv] at e1; simp [Value.ownBlock] at e1
  ·rw [hv] at e1
   obtain rfl : g2 = g := by simpa [Value.ownBlock] using e1
   rw [hgb] at ho; cases ho; cases hc)
set_option maxHeartbeats 400000 in
theorem impl_trimmedL (g c : Nat) (T n B : Nat) (w : World) (h : OwnI w B (.slice (some ⟨g, 0, none⟩) n c) (listF n (digF T))) (hT : nlen T ≤ n) :
  Calls Tryz.prog 168 #[.slice (some ⟨g, 0, none⟩) n c] w fun e w' => e = .returned (.slice (some ⟨g, 0, none⟩) (nlen T) c) ∧ w' = w := by
 have hcm := h.cap_le
 unfold maxLen at hcm
 have H := Lib.hid h
 clear h
 go_enter Tryz.func168, Tryz.ntmps168
 go_wp2
 go_loop [0] (fun sv => ∃ k : Nat, k ≤ n ∧ nlen T ≤ k ∧ sv = .slice (some ⟨g, 0, none⟩) k c) (fun sv => match sv with | .slice _ k _ => k | _ => 0)
 case atStart => exact ⟨n, Nat.le_refl _, hT, rfl⟩
 case round =>
  obtain ⟨k, hk, hTk, rfl⟩ := hrel
  by_cases hp : 0 < k
  ·have hcl := H.out.cell (k - 1) (by rw [listF_length]; omega)
   rw [listF_get] at hcl
   unfold digF at hcl
   have e1 : ((k : Int) - 1).toNat = k - 1 := by omega
   have HM := Lib.hid (trim_more hTk hp)
   have HD := Lib.hid (trim_done hTk hp)
   obtain ⟨d, hd⟩ : ∃ d, dig T (k - 1) = d := ⟨_, rfl⟩
   rw [hd] at hcl HM HD
   clear hd
   by_cases h0 : d = 0
   ·have HM2 := Lib.hid (HM.out h0)
    subst h0
    go_wp2
    go_round
    case rel => exact ⟨k - 1, by omega, HM2.out, by go_num⟩
    case measure => simp; omega
   ·have HD2 := Lib.hid (HD.out h0)
    have hb : ((d : Int) == 0) = false := by simp; exact h0
    clear h0
    go_wp2
    go_ret
    exact ⟨by rw [← HD2.out]; rfl, rfl⟩
  ·obtain rfl : k = 0 := by omega
   have HT : Hid (nlen T = 0) := by unfold Hid; omega
   go_wp2
   go_ret
   exact ⟨by rw [HT.out]; rfl, rfl⟩
theorem OwnI.trim {g c T n B : Nat} {w : World} (h : OwnI w B (.slice (some ⟨g, 0, none⟩) n c) (listF n (digF T))) (hT : nlen T ≤ n) : OwnI w B (.slice (some ⟨g, 0, none⟩) (nlen T) c) (limI T) := by
 have := h.take hT
 rw [limI_take hT] at this
 exact this
def dvF (x d : Nat) (s : Nat × (Nat → Int)) (i : Nat) : Nat × (Nat → Int) := ((s.1 * 1000000000 + dig x i) % d, fun j => if j = i then (((s.1 * 1000000000 + dig x i) / d : Nat) : Int) else s.2 j)
def dvA (x d : Nat) (l : List Nat) : Nat × (Nat → Int) := l.foldl (dvF x d) (0, fun _ => 0)
theorem dvA_snoc (x d : Nat) (l : List Nat) (i : Nat) : dvA x d (l ++ [i]) = dvF x d (dvA x d l) i := by simp [dvA]
theorem dvA_lt (x d : Nat) (hd : 0 < d) : ∀ l : List Nat, (dvA x d l).1 < d := by
 have h : ∀ (l : List Nat) (s : Nat × (Nat → Int)), s.1 < d → (l.foldl (dvF x d) s).1 < d := by
  intro l
  induction l with
  | nil => exact fun s h => h
  | cons i r ih => exact fun s h => ih _ (Nat.mod_lt _ hd)
 exact fun l => h l _ hd
theorem dvA_desc (x d n : Nat) (hd : 0 < d) (hx : x < pw n) : ∀ k, k ≤ n → (dvA x d (descN n k)).1 = x / pw (n - k) % d ∧ ∀ j, j < n → (dvA x d (descN n k)).2 j = if n - k ≤ j then digF (x / d) j else 0
 | 0, _ => by
  refine ⟨by rw [descN_zero, Nat.sub_zero, Nat.div_eq_of_lt hx]; rfl, fun j hj => ?_⟩
  rw [if_neg (by omega)]; rfl
 | k + 1, h => by
  obtain ⟨ih1, ih2⟩ := dvA_desc x d n hd hx k (by omega)
  obtain ⟨i, hi⟩ : ∃ i, n - 1 - k = i := ⟨_, rfl⟩
  have hs := div_digit x d i hd
  rw [descN_succ, dvA_snoc, hi]
  rw [show n - k = i + 1 by omega] at ih1 ih2
  rw [show n - (k + 1) = i by omega]
  unfold dvF
  rw [ih1, hs.1, hs.2]
  refine ⟨rfl, fun j hj => ?_⟩
  show (if j = i then _ else _) = _
  by_cases e : j = i
  ·subst e; rw [if_pos rfl, if_pos (Nat.le_refl _)]; rfl
  ·rw [if_neg e, ih2 j hj]
   by_cases h1 : i + 1 ≤ j
   ·rw [if_pos h1, if_pos (by omega)]
   ·rw [if_neg h1, if_neg (by omega)]
theorem listF_set {n i : Nat} {F : Nat → Int} {q : Int} : (listF n F).set i q = listF n (fun j => if j = i then q else F j) := by
 apply List.ext_getElem (by simp [listF_length])
 intro j h1 h2
 rw [List.getElem_set, listF_get, listF_get]
 by_cases e : i = j
 ·subst e; simp
 ·rw [if_neg e, if_neg (fun h => e h.symm)]
set_option maxRecDepth 100000 in
set_option maxHeartbeats 2000000 in
theorem impl_divInt (va : Value) (x d : Nat) (w : World) (ha : RowOf iV w va (limI x)) (hd0 : 0 < d) (hd1 : d < 1000000000) (hx : nlen x ≤ 1000) :
  Calls Tryz.prog 188 #[va, .int .i64 d] w fun e w' => ∃ v, e = .returned (.tuple #[v, .int .i64 ((x % d : Nat) : Int)]) ∧ OwnI w' w.heap.size v (limI (x / d)) ∧ Below w.heap.size w w' := by
 have H := Lib.hid ha
 obtain ⟨a, cap, rfl, h1, h2, h3⟩ := ha
 clear h1 h2 h3
 rw [limI_length] at H ⊢
 have hrd := Lib.hid (rd_limbs H.out)
 have hab := Lib.hid (rd_block hrd.out)
 have HA := Lib.hid (dvA_desc x d (nlen x) hd0 (lt_pw_nlen x))
 have HL := Lib.hid (dvA_lt x d hd0)
 have HT := Lib.hid (nlen_div (x := x) (d := d))
 obtain ⟨n, hn⟩ : ∃ n, nlen x = n := ⟨_, rfl⟩
 rw [hn] at hx H hrd hab HA HT ⊢
 clear hn
 have hmk := make_limbs n (by omega)
 refine (callsIn_wide (n := 3)).1 ?_
 refine callsIn_of_wp_marks Tryz.func188 rfl trivial ?_ rfl
 simp only [Tryz.ntmps188, List.size_toArray, List.length_cons, List.length_nil, Nat.reduceAdd, Nat.reduceSub, Array.replicate_succ, Array.replicate_zero, List.push_toArray, List.append_toArray, List.nil_append, List.cons_append]
 gi_wp2_with (gi_at_call 148; refine (back_in Fence.wide _ trivial rfl _ _ _ _).mono ?_; rintro e w' ⟨rfl, rfl⟩)
 clear hmk
 obtain ⟨W0, hW0⟩ : ∃ W0, W0 = ((((w.alloc (.cells #[.int .i64 d] 3)).alloc (zeroObj n)).alloc (.cells #[.slice (some ⟨w.heap.size + 1, 0, none⟩) n n] 120)).alloc (.cells #[.int .i64 0] 3)).alloc (.cells #[.slice a n cap] 120) := ⟨_, rfl⟩
 have b0 := ((((Boxed.new w 3 (.int .i64 d)).alloc (zeroObj n)).alloc (.cells #[.slice (some ⟨w.heap.size + 1, 0, none⟩) n n] 120)).alloc (.cells #[.int .i64 0] 3)).alloc (.cells #[.slice a n cap] 120)
 have b1 := (((zeroObj_own (w.alloc (.cells #[.int .i64 d] 3)) (w.alloc (.cells #[.int .i64 d] 3)).heap.size n (Nat.le_refl _) (by omega)).alloc (.cells #[.slice (some ⟨w.heap.size + 1, 0, none⟩) n n] 120)).alloc (.cells #[.int .i64 0] 3)).alloc (.cells #[.slice a n cap] 120)
 have b2 := ((Boxed.new ((w.alloc (.cells #[.int .i64 d] 3)).alloc (zeroObj n)) 120 (.slice (some ⟨w.heap.size + 1, 0, none⟩) n n)).alloc (.cells #[.int .i64 0] 3)).alloc (.cells #[.slice a n cap] 120)
 have b3 := (Boxed.new (((w.alloc (.cells #[.int .i64 d] 3)).alloc (zeroObj n)).alloc (.cells #[.slice (some ⟨w.heap.size + 1, 0, none⟩) n n] 120)) 3 (.int .i64 0)).alloc (.cells #[.slice a n cap] 120)
 have b4 := Boxed.new ((((w.alloc (.cells #[.int .i64 d] 3)).alloc (zeroObj n)).alloc (.cells #[.slice (some ⟨w.heap.size + 1, 0, none⟩) n n] 120)).alloc (.cells #[.int .i64 0] 3)) 120 (.slice a n cap)
 have bB : Below w.heap.size w W0 := by
  rw [hW0]
  exact (((((Below.refl _ w).alloc (Nat.le_refl _) _).alloc (by simp) _).alloc (by simp; omega) _).alloc (by simp; omega) _).alloc (by simp; omega) _
 have bS : W0.heap.size = w.heap.size + 1 + 1 + 1 + 1 + 1 := by rw [hW0]; simp
 rw [← hW0] at b0 b1 b2 b3 b4 ⊢
 simp only [World.size_alloc] at b0 b1 b2 b3 b4
 have B0 := Lib.hid b0
 have O1 := Lib.hid b1
 have B2 := Lib.hid b2
 have B3 := Lib.hid b3
 have B4 := Lib.hid b4
 have BB := Lib.hid bB
 have BR := Lib.hid (rd_below hrd.out bB)
 have BS := Lib.hid bS
 clear b0 b1 b2 b3 b4 bB hW0 bS
 obtain ⟨h, hh⟩ : ∃ h, w.heap.size = h := ⟨_, rfl⟩
 rw [hh] at B0 O1 B2 B3 B4 BB BS hab ⊢
 have HH := Lib.hid hh
 clear hh
 have hS : W0.heap.size = h + 1 + 1 + 1 + 1 + 1 := BS.out
 refine wpIn_rangeFunc_ownG rfl (by omega) (gf := 174) (lb := #[.pointer (some ⟨h + 1 + 1 + 1 + 1, 0, none⟩)]) rfl trivial (enters_of Tryz.func174 (by kernel_rfl) rfl)
  (back_stops Fence.wide _ trivial rfl (by omega) (h + 1 + 1 + 1 + 1) h n cap a (VL x) (by omega) W0 B4.out.cell BR.out) (fun h k => KpB.trans h k) (KpB.putObj (by omega) (by omega) (fun b o e hl => by have := hab.out b o e hl; omega)) (Below.refl _ _) (fun _ => rfl)
  (fun pre W => (Boxed W h 3 (.int .i64 d) ∧ OwnI W (h + 1) (.slice (some ⟨h + 1, 0, none⟩) n n) (listF n (dvA x d (pre.map idx)).2) ∧ Boxed W (h + 1 + 1) 120 (.slice (some ⟨h + 1, 0, none⟩) n n) ∧ Boxed W (h + 1 + 1 + 1) 3 (.int .i64 ((dvA x d (pre.map idx)).1 : Nat))) ∧ Below h w W)
  (fun _ _ _ => False)
  (OwnFrom.and (Own.from (fun s A B row hs hg hr => ⟨boxed_own _ _ (fun _ : List (BackA n (VL x)) => _) s A B row hs.1 hg hr, ownI_own _ _ (fun s : List (BackA n (VL x)) => listF n (dvA x d (s.map idx)).2) s A B row hs.2.1 hg hr, boxed_own _ _ (fun _ : List (BackA n (VL x)) => _) s A B row hs.2.2.1 hg hr, boxed_own _ _ (fun s : List (BackA n (VL x)) => .int .i64 ((dvA x d (s.map idx)).1 : Nat)) s A B row hs.2.2.2 hg hr⟩) _) (ownFrom_below (by rw [HH.out]; exact Nat.le_refl _) (by omega)))
  (fun _ _ _ _ _ hs _ _ => hs)
  ⟨⟨B0.out, O1.out, B2.out, B3.out⟩, BB.out⟩
  (fun z => { tmps := #[.slice a n cap, .int .i64 d, undef, .pointer (some ⟨h, 0, none⟩), .slice none 0 0, .int .i64 0, .pointer (some ⟨h + 1 + 1, 0, none⟩), .pointer (some ⟨h + 1 + 1 + 1, 0, none⟩), .int .i64 (z.1.1 : Int), .int .i64 z.1.2, .slice a n cap, .int .i64 n, .slice (some ⟨h + 1, 0, none⟩) n n, .slice a n cap, .func (.func 174) #[] #[.pointer (some ⟨h + 1 + 1 + 1 + 1, 0, none⟩)], .int .i64 (z.1.1 : Int), .int .i64 z.1.2, undef, undef, undef, undef, undef, undef, undef, undef, undef, undef, undef, undef, undef, undef, undef, undef], defers := [] }) ?assign ?body ?done ?stop
 case assign =>
  intro l z W K hK
  gi_wp2
  exact hK
 case body =>
  rintro l pre z W ⟨⟨h0, h1, h2, h3⟩, hB⟩ _
  have hi := z.2.1
  have hz : z.1.2 = (dig x z.1.1 : Int) := z.2.2
  have hmap : Hid ((pre ++ [z]).map idx = pre.map idx ++ [z.1.1]) := by unfold Hid; rw [List.map_append]; rfl
  rw [hz]
  obtain ⟨i, hie⟩ : ∃ i, z.1.1 = i := ⟨_, rfl⟩
  rw [hie] at hi hmap ⊢
  have hel := dig_lt x i
  have hrl := HL.out (pre.map idx)
  have HSn := Lib.hid (dvA_snoc x d (pre.map idx) i)
  obtain ⟨S, hSe⟩ : ∃ S, dvA x d (pre.map idx) = S := ⟨_, rfl⟩
  rw [hSe] at h1 h3 hrl HSn
  obtain ⟨r, hr⟩ : ∃ r, S.1 = r := ⟨_, rfl⟩
  unfold dvF at HSn
  rw [hr] at h3 hrl HSn
  obtain ⟨e, he⟩ : ∃ e, dig x i = e := ⟨_, rfl⟩
  rw [he] at hel HSn ⊢
  obtain ⟨q, hq⟩ : ∃ q, (r * 1000000000 + e) / d = q := ⟨_, rfl⟩
  obtain ⟨r', hr'⟩ : ∃ r', (r * 1000000000 + e) % d = r' := ⟨_, rfl⟩
  rw [hq, hr'] at HSn
  have hqi : ((r : Int) * 1000000000 + (e : Int)) / (d : Int) = (q : Int) := by rw [← hq]; simp
  have hri : ((r : Int) * 1000000000 + (e : Int)) % (d : Int) = (r' : Int) := by rw [← hr']; simp
  have K0 := Lib.hid h0
  have K1 := Lib.hid h1
  have K2 := Lib.hid h2
  have K3 := Lib.hid h3
  have KB := Lib.hid hB
  have c0 := h0.cell
  have c2 := h2.cell
  have c3 := h3.cell
  have f3 := h3.frozen
  have hcl := h1.cell i (by rw [listF_length]; exact hi)
  have hfz := h1.frozen i
  have hi2 : (i : Int) < n := by omega
  have hd2 : (0 : Int) < d := by omega
  have hdz : ((d : Int) == 0) = false := by simp; omega
  have hmx : Tryz.prog.follows .mixedOrders = true := by kernel_rfl
  clear hie hz hSe hr he hq hr' h0 h1 h2 h3 hB
  gi_wp2
  have K0a := Lib.hid (K0.out.other (B' := h + 1 + 1 + 1) (by omega) (.int .i64 ((r : Int) * 1000000000 + (e : Int))))
  have K1a := Lib.hid (K1.out.other (setCell_grown W (h + 1 + 1 + 1) 0 (.int .i64 ((r : Int) * 1000000000 + (e : Int)))) (fun k k' e1 e2 => by
   have h3 : h + 1 = k := by simpa [Value.ownBlock] using e1
   have h4 : h + 1 + 1 + 1 = k' := by simpa using e2
   omega))
  have K2a := Lib.hid (K2.out.other (B' := h + 1 + 1 + 1) (by omega) (.int .i64 ((r : Int) * 1000000000 + (e : Int))))
  have K3a := Lib.hid (K3.out.set (.int .i64 ((r : Int) * 1000000000 + (e : Int))))
  have KBa := Lib.hid (KB.out.setCell (p := ⟨h + 1 + 1 + 1, 0, none⟩) (by simp; omega) (.int .i64 ((r : Int) * 1000000000 + (e : Int))))
  have KPa := Lib.hid (KpB.setCell (V := VL x) (a := a) (len := n) (Bs := h + 1 + 1 + 1 + 1) (n₀ := h) W (p := ⟨h + 1 + 1 + 1, 0, none⟩) (by simp; omega) (by simp) (fun b o e hl => by have := hab.out b o e hl; simp; omega) (.int .i64 ((r : Int) * 1000000000 + (e : Int))))
  have KOa := Lib.hid (KeepsOthers.setCell W ⟨h + 1 + 1 + 1, 0, none⟩ (.int .i64 ((r : Int) * 1000000000 + (e : Int))))
  generalize W.setCell ⟨h + 1 + 1 + 1, 0, none⟩ (.int .i64 ((r : Int) * 1000000000 + (e : Int))) = W1 at K0a K1a K2a K3a KBa KPa KOa ⊢
  clear c0 c2 c3 f3 hcl hfz
  have c0 := K0a.out.cell
  have c2 := K2a.out.cell
  have c3 := K3a.out.cell
  have f3 := K3a.out.frozen
  have hcl := K1a.out.cell i (by rw [listF_length]; exact hi)
  have hfz := K1a.out.frozen i
  have HO2 : Hid (OwnI (W1.setCell ⟨h + 1, i, none⟩ (.int .i64 q)) (h + 1) (.slice (some ⟨h + 1, 0, none⟩) n n) (listF n (fun j => if j = i then (q : Int) else S.2 j))) := by
   have h := K1a.out.set i (q : Int)
   rw [listF_set] at h
   exact h
  have E0 := Lib.hid ((K0a.out.kept (setCell_grown W1 (h + 1) i (.int .i64 q)) (fun e => by injection e with e; omega)).other (B' := h + 1 + 1 + 1) (by omega) (.int .i64 r'))
  have E1 := Lib.hid (HO2.out.other (setCell_grown _ (h + 1 + 1 + 1) 0 (.int .i64 r')) (fun k k' e1 e2 => by
   have h3 : h + 1 = k := by simpa [Value.ownBlock] using e1
   have h4 : h + 1 + 1 + 1 = k' := by simpa using e2
   omega))
  have E2 := Lib.hid ((K2a.out.kept (setCell_grown W1 (h + 1) i (.int .i64 q)) (fun e => by injection e with e; omega)).other (B' := h + 1 + 1 + 1) (by omega) (.int .i64 r'))
  have E3 := Lib.hid ((K3a.out.kept (setCell_grown W1 (h + 1) i (.int .i64 q)) (fun e => by injection e with e; omega)).set (.int .i64 r'))
  have EB := Lib.hid (((KBa.out.setCell (p := ⟨h + 1, i, none⟩) (by simp) (.int .i64 q)).setCell (p := ⟨h + 1 + 1 + 1, 0, none⟩) (by simp; omega) (.int .i64 r')).drew)
  have EP := Lib.hid ((KPa.out.trans (KpB.setCell _ (p := ⟨h + 1, i, none⟩) (by simp) (by simp; omega) (fun b o e hl => by have := hab.out b o e hl; simp; omega) (.int .i64 q))).trans (KpB.setCell _ (p := ⟨h + 1 + 1 + 1, 0, none⟩) (by simp; omega) (by simp) (fun b o e hl => by have := hab.out b o e hl; simp; omega) (.int .i64 r')))
  have EO := Lib.hid (((KOa.out.trans (KeepsOthers.setCell _ ⟨h + 1, i, none⟩ (.int .i64 q))).trans (KeepsOthers.setCell _ ⟨h + 1 + 1 + 1, 0, none⟩ (.int .i64 r'))).trans (KeepsOthers.drew _))
  have HE : Hid (∀ W' : World, W' = ((W1.setCell ⟨h + 1, i, none⟩ (.int .i64 q)).setCell ⟨h + 1 + 1 + 1, 0, none⟩ (.int .i64 r')).drew → (KeepsFrom W0.heap.size W W' ∧ KpB (VL x) a n (h + 1 + 1 + 1 + 1) h W W' ∧ (Boxed W' h 3 (.int .i64 d) ∧ OwnI W' (h + 1) (.slice (some ⟨h + 1, 0, none⟩) n n) (listF n (dvA x d ((pre ++ [z]).map idx)).2) ∧ Boxed W' (h + 1 + 1) 120 (.slice (some ⟨h + 1, 0, none⟩) n n) ∧ Boxed W' (h + 1 + 1 + 1) 3 (.int .i64 ((dvA x d ((pre ++ [z]).map idx)).1 : Nat))) ∧ Below h w W')) := by
   rintro W' rfl
   rw [hmap.out, HSn.out]
   exact ⟨EO.out.from _, ⟨EP.out.1.drew, EP.out.2.1, EP.out.2.2⟩, ⟨E0.out, E1.out, E2.out, E3.out⟩, EB.out⟩
  clear E0 E1 E2 E3 EB EP EO HO2
  gi_region_with_o (fail)
  all_goals gi_wp2
  all_goals exact HE.out _ rfl
 case done =>
  rintro D ys W hD hS ⟨⟨h0, h1, h2, h3⟩, hB⟩ hK
  obtain ⟨a1, a2⟩ := HA.out n (Nat.le_refl _)
  rw [Nat.sub_self, pw_zero, Nat.div_one] at a1
  rw [hS] at h1 h3
  rw [a1] at h3
  have e1 : listF n (dvA x d (descN n n)).2 = listF n (digF (x / d)) := listF_congr (fun j hj => by rw [a2 j hj, if_pos (by omega)])
  rw [e1] at h1
  have HT1 := Lib.hid (fun W' (hW : OwnI W' (h + 1) (.slice (some ⟨h + 1, 0, none⟩) n n) (listF n (digF (x / d)))) => impl_trimmedL (h + 1) n (x / d) n (h + 1) W' hW HT.out)
  have K1 := Lib.hid h1
  have K3 := Lib.hid h3
  have KB := Lib.hid hB
  have HK := Lib.hid hK
  have c2 := h2.cell
  have c3 := h3.cell
  have HDD := Lib.hid hD
  clear a1 a2 hS e1 h0 h1 h2 h3 hB hK hD
  gi_wp2
  gi_big_quiet_th ((gi_at_call 168; refine CallsIn.quiet_of_same (callsIn_wide.2 (HT1.out _ K1.out))))
  gi_wp2
  have hK' : (W.drewN nq).heap[D]? = some (.deferred (some [])) := HK.out
  refine ⟨by simp, .inl ⟨_, _, rfl, run_takeDeferred hK', ?_⟩⟩
  refine ⟨_, results_tmp2 rfl _ _ _, _, rfl, ?_, ?_⟩
  ·rw [HH.out]
   exact OwnI.base (ownsRow_putObj (K1.out.trim HT.out) _ HK.out rfl) (Nat.le_succ h)
  ·rw [HH.out]
   exact below_shut (W := W.drewN nq) (below_drewN KB.out nq) (by have := HDD.out; omega) (by have := KB.out.size; rw [HH.out] at this; exact this)
 case stop =>
  rintro D c pre W hD _ hf _
  exact hf.elim
end Go.Proofs.YtlepgkkpopjgoaaGreat
namespace Go.Proofs.YtlepgkkpopjgoaaGreat
set_option maxRecDepth 100000
set_option linter.unusedVariables false
set_option linter.unusedSimpArgs false
open Go.RowKit Go.WideShapes Go.ChangeShapes
set_option maxRecDepth 100000
set_option maxHeartbeats 400000 in
theorem impl_clone (v : Value) (x : Nat) (w : World) (h : RowOf iV w v (limI x)) (hx : nlen x ≤ 1000) :
  Calls Tryz.prog 170 #[v] w fun e w' => ∃ v', e = .returned v' ∧ OwnI w' w.heap.size v' (limI x) ∧ Below w.heap.size w w' := by
 have H := Lib.hid h
 obtain ⟨a, c, rfl, hc, hm, hr⟩ := h
 have hq := fun W : World => Lib.run_eql_slice_nil (P := Tryz.prog) W 120 3 a (limI x).length c 0 0 Tryz.underlying120
 cases a with
 | none =>
  have hl : limI x = [] := by
   cases hL : limI x with
   | nil => rfl
   | cons y r => obtain ⟨b, o, e, _⟩ := hr 0 (by rw [hL]; simp); cases e
  have HL := Lib.hid hl
  clear hl hr hc hm H
  simp only [Option.isNone_none] at hq
  go_enter Tryz.func170, Tryz.ntmps170
  go_wp2
  go_ret
  exact ⟨_, rfl, by rw [HL.out]; exact OwnI.nil _ _, Below.refl _ _⟩
 | some ad =>
  clear hr hc hm
  simp only [Option.isNone_some] at hq
  have hlen : ([] : List Int).length + (limI x).length ≤ 1099511627776 := by rw [limI_length]; simp; omega
  have HR := Lib.hid (fun o => rowOf_below H.out ((Below.refl w.heap.size w).alloc (Nat.le_refl _) o))
  go_enter Tryz.func170, Tryz.ntmps170
  go_wp2_with (at_builtin; refine append_ints rfl _ _ 120 Tryz.underlying120 rfl w.heap.size _ _ [] (limI x) rfl (OwnI.lit0 w) rfl (HR.out _) hlen (by simp) ?_; intro v' w1 h1 hg1)
  go_ret
  refine ⟨v', rfl, ?_, ((Below.refl _ w).alloc (Nat.le_refl _) _).grown hg1 (by simp) (fun k hk => ((OwnI.lit0 w).lt k hk).1)⟩
  rw [List.nil_append] at h1
  exact h1
set_option maxHeartbeats 1000000 in
theorem impl_guess (va vb : Value) (P v n : Nat) (w : World) (ha : RowOf iV w va (listF (n + 3) (digF P))) (hb : RowOf iV w vb (limI v)) (hv : nlen v = n + 2) (hP : P < pw (n + 3)) (hd : 500000000 ≤ dig v (n + 1)) (hn : n ≤ 1000) :
  Calls Tryz.prog 195 #[va, vb] w fun e w' => e = .returned (.int .i64 ((P / pw n / (v / pw n) : Nat) : Int)) ∧ P / pw n / (v / pw n) < 2000000000 ∧ ∃ q, w' = w.drewN q := by
 have RA := Lib.hid ha
 obtain ⟨aa, ca, rfl, h1, h2, hr⟩ := ha
 rw [listF_length] at RA ⊢
 have HC : Hid (∀ i, i < n + 3 → ∃ b o, aa = some ⟨b, o, none⟩ ∧ w.cell? ⟨b, o + i, none⟩ = some (.int .i64 (dig P i))) := fun i hi => by
  obtain ⟨b, o, e, hx⟩ := hr i (by rw [listF_length]; exact hi)
  rw [listF_get] at hx
  exact ⟨b, o, e, hx⟩
 have RB := Lib.hid hb
 obtain ⟨ab, cb, rfl, h4, h5, h6⟩ := hb
 clear h1 h2 h4 h5 h6 hr
 rw [limI_length, hv] at RB ⊢
 have HV := Lib.hid hv
 obtain ⟨b1, o1, rfl, c1⟩ := HC.out n (by omega)
 obtain ⟨b1', o1', e1, c2⟩ := HC.out (n + 1) (by omega)
 injection e1 with e1; injection e1 with e1 e1'; subst e1 e1'
 obtain ⟨b1', o1', e1, c3⟩ := HC.out (n + 2) (by omega)
 injection e1 with e1; injection e1 with e1 e1'; subst e1 e1'
 obtain ⟨b2, o2, rfl, c4⟩ := row_limb RB.out (k := n) (by omega)
 obtain ⟨b2', o2', e2, c5⟩ := row_limb RB.out (k := n + 1) (by omega)
 injection e2 with e2; injection e2 with e2 e2'; subst e2 e2'
 -- the numbers
 have hU : P / pw n = (dig P (n + 2) * 1000000000 + dig P (n + 1)) * 1000000000 + dig P n := by
  rw [div_step P n, div_step P (n + 1)]
  have : P / pw (n + 1 + 1) = dig P (n + 2) := (dig_of_lt hP).symm
  rw [this]
 have hW : v / pw n = dig v (n + 1) * 1000000000 + dig v n := by
  rw [div_step v n]
  have hl : v < pw (n + 1 + 1) := by have := lt_pw_nlen v; rw [hv] at this; exact this
  rw [dig_of_lt hl]
 have d1 := dig_lt P n
 have d2 := dig_lt P (n + 1)
 have d3 := dig_lt P (n + 2)
 have d4 := dig_lt v n
 have d5 := dig_lt v (n + 1)
 obtain ⟨p0, h0⟩ : ∃ p, dig P n = p := ⟨_, rfl⟩
 obtain ⟨p1, h1⟩ : ∃ p, dig P (n + 1) = p := ⟨_, rfl⟩
 obtain ⟨p2, h2⟩ : ∃ p, dig P (n + 2) = p := ⟨_, rfl⟩
 obtain ⟨v2, h3⟩ : ∃ p, dig v n = p := ⟨_, rfl⟩
 obtain ⟨v1, h4⟩ : ∃ p, dig v (n + 1) = p := ⟨_, rfl⟩
 rw [h0, h1, h2] at hU
 rw [h3, h4] at hW
 rw [hU, hW]
 rw [h0] at c1 d1
 rw [h1] at c2 d2
 rw [h2] at c3 d3
 rw [h3] at c4 d4
 rw [h4] at c5 d5 hd
 have hv0 : 0 < v1 := by omega
 have HF := Lib.hid (guess_first (top := p2 * 1000000000 + p1) (v2 := v2) hv0 d1)
 have HS := Lib.hid (guess_small (top := p2 * 1000000000 + p1) (v1 := v1) (by omega) hd)
 have HT := Lib.hid (fun q r hr => guess_test (top := p2 * 1000000000 + p1) (p0 := p0) (v2 := v2) (q := q) (r := r) hv0 hr)
 obtain ⟨G, hG⟩ : ∃ G, ((p2 * 1000000000 + p1) * 1000000000 + p0) / (v1 * 1000000000 + v2) = G := ⟨_, rfl⟩
 rw [hG] at HF HT ⊢
 have HDM := Lib.hid (Nat.div_add_mod (p2 * 1000000000 + p1) v1)
 have HML := Lib.hid (Nat.mod_lt (p2 * 1000000000 + p1) hv0)
 obtain ⟨q0, hq0⟩ : ∃ q, (p2 * 1000000000 + p1) / v1 = q := ⟨_, rfl⟩
 obtain ⟨r0, hr0⟩ : ∃ r, (p2 * 1000000000 + p1) % v1 = r := ⟨_, rfl⟩
 rw [hq0] at HF HS HDM
 rw [hr0] at HDM HML
 have hqi : ((p2 : Int) * 1000000000 + (p1 : Int)) / (v1 : Int) = (q0 : Int) := by rw [← hq0]; simp
 have hri : ((p2 : Int) * 1000000000 + (p1 : Int)) % (v1 : Int) = (r0 : Int) := by rw [← hr0]; simp
 have hqt : ((p2 : Int) * 1000000000 + (p1 : Int)).tdiv (v1 : Int) = (q0 : Int) := by rw [← hq0]; rw [Int.tdiv_eq_ediv_of_nonneg (by omega)]; simp
 have hrt : ((p2 : Int) * 1000000000 + (p1 : Int)).tmod (v1 : Int) = (r0 : Int) := by rw [← hr0]; rw [Int.tmod_eq_emod_of_nonneg (by omega)]; simp
 have hq0b : q0 < 2000000000 := HS.out
 have HGS : Hid (G < 2000000000) := by have h1 := HF.out; have h2 := HS.out; unfold Hid; omega
 have e1 : ((n : Int) + 2 - 1).toNat = n + 1 := by omega
 have e2 : ((n : Int) + 2 - 2).toNat = n := by omega
 have e3 : ((n : Int) + 2).toNat = n + 2 := by omega
 have hvz : ((v1 : Int) == 0) = false := by simp; omega
 have hv3 : (0 : Int) < (v1 : Int) := by omega
 clear hG hq0 hr0 h0 h1 h2 h3 h4 hU hW HC HV hv
 go_enter Tryz.func195, Tryz.ntmps195
 go_wp2
 go_quiet (fail)
 go_wp2
 go_quiet (fail)
 go_wp2
 go_loopw [7, 8] (fun qv rv wr => ∃ q r nd : Nat, qv = .int .i64 q ∧ rv = .int .i64 r ∧ q < 2000000000 ∧ r < 3000000000 ∧ G ≤ q ∧ Hid (p2 * 1000000000 + p1 = q * v1 + r) ∧ wr = w.drewN nd) (fun qv _ _ => (intOf qv).toNat)
 case atStart => exact ⟨q0, r0, _, rfl, rfl, hq0b, by have := HML.out; omega, HF.out, by unfold Hid; rw [← HDM.out, Nat.mul_comm], World.drewN_drewN _ _ _⟩
 case round =>
  obtain ⟨q, r, nd, rfl, rfl, hq, hr, hg, HE, rfl⟩ := hrel
  have HTq := Lib.hid (HT.out q r HE.out)
  have hprb : q * v2 ≤ 2000000000 * 1000000000 := Nat.mul_le_mul (by omega) (by omega)
  obtain ⟨pr, hpr⟩ : ∃ pr, q * v2 = pr := ⟨_, rfl⟩
  rw [hpr] at HTq hprb
  have hpi : (q : Int) * (v2 : Int) = (pr : Int) := by rw [← hpr]; simp
  clear hpr hqi hri hqt hrt
  by_cases hgq : G < q
  ·have hlt : r * 1000000000 + p0 < pr := HTq.out.2 hgq
   have hlti : (r : Int) * 1000000000 + (p0 : Int) < (pr : Int) := by omega
   have HN : Hid (p2 * 1000000000 + p1 = (q - 1) * v1 + (r + v1)) := by
    unfold Hid
    rw [HE.out]
    obtain ⟨k, rfl⟩ : ∃ k, q = k + 1 := ⟨q - 1, by omega⟩
    rw [Nat.add_sub_cancel, Nat.succ_mul]; omega
   go_wp2
   go_quiet (fail)
   go_wp2
   go_roundw
   case rel => exact ⟨q - 1, r + v1, _, by go_num, by go_num, by omega, by omega, by omega, HN, rfl⟩
   case measure => simp [intOf]; omega
  ·obtain rfl : q = G := by omega
   have hlt : ¬ r * 1000000000 + p0 < pr := fun h => hgq (HTq.out.1 h)
   have hlti : (pr : Int) ≤ (r : Int) * 1000000000 + (p0 : Int) := by omega
   go_wp2
   go_quiet (fail)
   go_wp2
   go_ret
   exact ⟨rfl, HGS.out, _, World.drewN_drewN _ _ _⟩
theorem mixF_set {N R o k Q : Nat} : (listF N (mixF R o k Q)).set (o + k) ((dig Q k : Nat) : Int) = listF N (mixF R o (k + 1) Q) := by
 apply List.ext_getElem (by simp [listF_length])
 intro j h1 h2
 rw [List.getElem_set, listF_get, listF_get, ← mixF_next]
 by_cases e : o + k = j
 ·subst e; simp
 ·rw [if_neg e, if_neg (fun h => e h.symm)]
theorem rowOf_grown {w w' : World} {a : Option Addr} {n c x g : Nat} (h : RowOf iV w (.slice a n c) (limI x)) (hg : w.grownBy w' (some g)) (hne : ∀ b o, a = some ⟨b, o, none⟩ → b ≠ g) : RowOf iV w' (.slice a n c) (limI x) := by
 obtain ⟨a', c', e, h1, h2, h3⟩ := h
 refine ⟨a', c', e, h1, h2, fun i hi => ?_⟩
 obtain ⟨b, o, e2, hx⟩ := h3 i hi
 injection e with e3 e4 e5
 subst e3
 exact ⟨b, o, e2, hg.cell hx (fun e => by injection e with e; exact hne b o e2 e)⟩
set_option maxHeartbeats 2000000 in
theorem impl_lower (g N R o len cp q v : Nat) (vb : Value) (ab : Option Addr) (nb cb B : Nat) (w : World) (h : OwnI w B (.slice (some ⟨g, 0, none⟩) N N) (listF N (digF R))) (ho : o + len ≤ N) (hN : N ≤ 1000)
  (hvb : vb = .slice ab nb cb) (hb : RowOf iV w vb (limI v)) (hne : ∀ b o, ab = some ⟨b, o, none⟩ → b ≠ g) (hv : v < pw len) (hq : q < 2000000000) :
  Calls Tryz.prog 196 #[.slice (some ⟨g, o, none⟩) len cp, .int .i64 q, vb] w fun e w' =>
   e = .returned (.bool (decide (R / pw o % pw len < q * v))) ∧ OwnI w' B (.slice (some ⟨g, 0, none⟩) N N) (listF N (digF (putN R o len (lowP (R / pw o % pw len) q v len)))) ∧ w.grownBy w' (some g) := by
 have RB := Lib.hid hb
 obtain ⟨P, hP⟩ : ∃ P, R / pw o % pw len = P := ⟨_, rfl⟩
 have hPl : P < pw len := by rw [← hP]; exact Nat.mod_lt _ (pw_pos len)
 have HPd : Hid (∀ k, k < len → dig P k = dig R (o + k)) := fun k hk => by rw [← hP]; exact dig_part R o len k hk
 rw [hP]
 have HN0 := Lib.hid (low_neg (P := P) (q := q) (v := v) hPl hv)
 have HB := Lib.hid (fun k => lowC_bound P q v k)
 have HS := Lib.hid (fun (k : Nat) (hk : k < len) (c a e : Nat) hc ha he => low_step (P := P) (q := q) (v := v) hk (c := c) (a := a) (e := e) hc ha he)
 have HZ := Lib.hid (lowC_zero P q v)
 have HPL := Lib.hid (lowP_lt P q v len)
 have H0 : Hid (OwnI w B (.slice (some ⟨g, 0, none⟩) N N) (listF N (mixF R o 0 (lowP P q v len)))) := by
  unfold Hid
  rw [listF_congr (G := digF R) (fun i _ => mixF_zero R o _ i)]
  exact h
 have HF : Hid (listF N (mixF R o len (lowP P q v len)) = listF N (digF (putN R o len (lowP P q v len)))) := listF_congr (fun i _ => mixF_full HPL.out i)
 have HNE := Lib.hid hne
 subst hvb
 clear h hb hP hPl hv hne
 go_enter Tryz.func196, Tryz.ntmps196
 go_wp2
 go_loopw [7, 11] (fun bv iv wr => ∃ k c : Nat, k ≤ len ∧ iv = .int .i64 k ∧ bv = .int .i64 c ∧ Hid ((c : Int) = lowC P q v k) ∧ Hid (OwnI wr B (.slice (some ⟨g, 0, none⟩) N N) (listF N (mixF R o k (lowP P q v len)))) ∧ Hid (w.grownBy wr (some g))) (fun _ iv _ => len - (intOf iv).toNat)
 case atStart => exact ⟨0, 0, Nat.zero_le _, rfl, rfl, HZ.out.symm, H0, grownBy_refl _ _⟩
 case round =>
  obtain ⟨k, c, hk, rfl, rfl, HC, HK, HG⟩ := hrel
  have hcb : c ≤ 2000000000 := by have h1 := (HB.out k).2; have h2 := HC.out; omega
  by_cases hlt : k < len
  ·have hR1 := Lib.hid (rowOf_grown RB.out HG.out HNE.out)
   have hal : dig P k < 1000000000 := dig_lt _ _
   have hel := dig_lt v k
   have hcl := HK.out.cell (o + k) (by rw [listF_length]; omega)
   rw [listF_get, mixF_at, ← HPd.out k hlt] at hcl
   have hfz := HK.out.frozen (o + k)
   have HSk := Lib.hid (fun a e ha he => HS.out k hlt c a e HC.out ha he)
   obtain ⟨a, ha⟩ : ∃ a, dig P k = a := ⟨_, rfl⟩
   obtain ⟨e, he⟩ : ∃ e, dig v k = e := ⟨_, rfl⟩
   have HSk1 := Lib.hid (HSk.out a e ha he)
   have HE := Lib.hid he
   rw [ha] at hal hcl
   rw [he] at hel
   have hprb : q * e ≤ 2000000000 * 1000000000 := Nat.mul_le_mul (by omega) (by omega)
   obtain ⟨pr, hpr⟩ : ∃ pr, q * e = pr := ⟨_, rfl⟩
   rw [hpr] at HSk1 hprb
   have hpi : (q : Int) * (e : Int) = (pr : Int) := by rw [← hpr]; simp
   have hidx : ((k : Int)).toNat = k := by omega
   clear ha he hpr HSk
   have hm := Nat.mod_lt (c + pr) (show 0 < 1000000000 by omega)
   by_cases hge : (c + pr) % 1000000000 ≤ a
   ·obtain ⟨h1, h2⟩ := HSk1.out.1 hge
    have HO2 : Hid (OwnI (wr.setCell ⟨g, o + k, none⟩ (.int .i64 ((a : Int) - ((c : Int) + (pr : Int)) % 1000000000))) B (.slice (some ⟨g, 0, none⟩) N N) (listF N (mixF R o (k + 1) (lowP P q v len)))) := by
     have h := HK.out.set (o + k) ((a : Int) - ((c : Int) + (pr : Int)) % 1000000000)
     rw [show ((a : Int) - ((c : Int) + (pr : Int)) % 1000000000) = ((dig (lowP P q v len) k : Nat) : Int) by rw [h1]; omega] at h ⊢
     rw [mixF_set] at h
     exact h
    have HG2 := Lib.hid (grownBy_trans HG.out (setCell_grown wr g (o + k) (.int .i64 ((a : Int) - ((c : Int) + (pr : Int)) % 1000000000))))
    have HC2 := Lib.hid h2
    clear h1 h2
    have hnn : 0 ≤ (a : Int) - ((c : Int) + (pr : Int)) % 1000000000 := by omega
    go_wp2_with fail
    refine (at_dig _ v k _ hR1.out (by omega)).mono ?_
    rintro e' w1 ⟨rfl, rfl⟩
    rw [HE.out]
    go_wp2
    go_roundw
    case rel => exact ⟨k + 1, (c + pr) / 1000000000, by omega, by go_num, by go_num, HC2.out, HO2, HG2⟩
    case measure => simp [intOf]; omega
   ·obtain ⟨h1, h2⟩ := HSk1.out.2 (by omega)
    have HO2 : Hid (OwnI ((wr.setCell ⟨g, o + k, none⟩ (.int .i64 ((a : Int) - ((c : Int) + (pr : Int)) % 1000000000))).setCell ⟨g, o + k, none⟩ (.int .i64 ((a : Int) - ((c : Int) + (pr : Int)) % 1000000000 + 1000000000))) B (.slice (some ⟨g, 0, none⟩) N N) (listF N (mixF R o (k + 1) (lowP P q v len)))) := by
     have h := (HK.out.set (o + k) ((a : Int) - ((c : Int) + (pr : Int)) % 1000000000)).set (o + k) ((a : Int) - ((c : Int) + (pr : Int)) % 1000000000 + 1000000000)
     rw [List.set_set] at h
     rw [show ((a : Int) - ((c : Int) + (pr : Int)) % 1000000000 + 1000000000) = ((dig (lowP P q v len) k : Nat) : Int) by rw [h1]; omega] at h ⊢
     rw [mixF_set] at h
     exact h
    have HG2 := Lib.hid (grownBy_trans (grownBy_trans HG.out (setCell_grown wr g (o + k) (.int .i64 ((a : Int) - ((c : Int) + (pr : Int)) % 1000000000)))) (setCell_grown _ g (o + k) (.int .i64 ((a : Int) - ((c : Int) + (pr : Int)) % 1000000000 + 1000000000))))
    have HC2 := Lib.hid h2
    clear h1 h2
    have hnn : (a : Int) - ((c : Int) + (pr : Int)) % 1000000000 < 0 := by omega
    go_wp2_with fail
    refine (at_dig _ v k _ hR1.out (by omega)).mono ?_
    rintro e' w1 ⟨rfl, rfl⟩
    rw [HE.out]
    go_wp2
    go_roundw
    case rel => exact ⟨k + 1, (c + pr) / 1000000000 + 1, by omega, by go_num, by go_num, by have := HC2.out; unfold Hid; omega, HO2, HG2⟩
    case measure => simp [intOf]; omega
  ·obtain rfl : k = len := by omega
   have HD : Hid (decide (P < q * v) = decide (0 < c)) := by
    unfold Hid
    have h1 := HN0.out
    rw [← HC.out] at h1
    exact decide_eq_decide.2 ⟨fun h => by have := h1.2 h; omega, fun h => h1.1 (by omega)⟩
   have HO2 : Hid (OwnI wr B (.slice (some ⟨g, 0, none⟩) N N) (listF N (digF (putN R o k (lowP P q v k))))) := by rw [← HF.out]; exact HK
   go_wp2
   go_ret
   exact ⟨by rw [HD.out]; rfl, HO2.out, HG.out⟩
set_option maxHeartbeats 2000000 in
theorem impl_raise (g N R o len cp v : Nat) (vb : Value) (ab : Option Addr) (nb cb B : Nat) (w : World) (h : OwnI w B (.slice (some ⟨g, 0, none⟩) N N) (listF N (digF R))) (ho : o + len ≤ N) (hN : N ≤ 1000)
  (hvb : vb = .slice ab nb cb) (hb : RowOf iV w vb (limI v)) (hne : ∀ b o, ab = some ⟨b, o, none⟩ → b ≠ g) :
  Calls Tryz.prog 197 #[.slice (some ⟨g, o, none⟩) len cp, vb] w fun e w' =>
   (∃ u, e = .returned u) ∧ OwnI w' B (.slice (some ⟨g, 0, none⟩) N N) (listF N (digF (putN R o len (highP (R / pw o % pw len) v len)))) ∧ w.grownBy w' (some g) := by
 have RB := Lib.hid hb
 obtain ⟨P, hP⟩ : ∃ P, R / pw o % pw len = P := ⟨_, rfl⟩
 have HPd : Hid (∀ k, k < len → dig P k = dig R (o + k)) := fun k hk => by rw [← hP]; exact dig_part R o len k hk
 rw [hP]
 have HB := Lib.hid (fun k => highC_le P v k)
 have HS := Lib.hid (fun (k : Nat) (hk : k < len) (c a e : Nat) hc ha he => high_step (P := P) (v := v) hk (c := c) (a := a) (e := e) hc ha he)
 have HZ := Lib.hid (highC_zero P v)
 have HPL := Lib.hid (highP_lt P v len)
 have H0 : Hid (OwnI w B (.slice (some ⟨g, 0, none⟩) N N) (listF N (mixF R o 0 (highP P v len)))) := by
  unfold Hid
  rw [listF_congr (G := digF R) (fun i _ => mixF_zero R o _ i)]
  exact h
 have HF : Hid (listF N (mixF R o len (highP P v len)) = listF N (digF (putN R o len (highP P v len)))) := listF_congr (fun i _ => mixF_full HPL.out i)
 have HNE := Lib.hid hne
 subst hvb
 clear h hb hP hne
 go_enter Tryz.func197, Tryz.ntmps197
 go_wp2
 go_loopw [4, 8] (fun bv iv wr => ∃ k c : Nat, k ≤ len ∧ iv = .int .i64 k ∧ bv = .int .i64 c ∧ Hid (c = highC P v k) ∧ Hid (OwnI wr B (.slice (some ⟨g, 0, none⟩) N N) (listF N (mixF R o k (highP P v len)))) ∧ Hid (w.grownBy wr (some g))) (fun _ iv _ => len - (intOf iv).toNat)
 case atStart => exact ⟨0, 0, Nat.zero_le _, rfl, rfl, HZ.out.symm, H0, grownBy_refl _ _⟩
 case round =>
  obtain ⟨k, c, hk, rfl, rfl, HC, HK, HG⟩ := hrel
  have hcb : c ≤ 2 := by rw [HC.out]; exact HB.out k
  by_cases hlt : k < len
  ·have hR1 := Lib.hid (rowOf_grown RB.out HG.out HNE.out)
   have hal : dig P k < 1000000000 := dig_lt _ _
   have hel := dig_lt v k
   have hcl := HK.out.cell (o + k) (by rw [listF_length]; omega)
   rw [listF_get, mixF_at, ← HPd.out k hlt] at hcl
   have hfz := HK.out.frozen (o + k)
   have HSk := Lib.hid (fun a e ha he => HS.out k hlt c a e HC.out ha he)
   have HAT := Lib.hid (fun W' (hW : RowOf iV W' (.slice ab nb cb) (limI v)) => at_dig _ v k W' hW (by omega))
   obtain ⟨a, ha⟩ : ∃ a, dig P k = a := ⟨_, rfl⟩
   obtain ⟨e, he⟩ : ∃ e, dig v k = e := ⟨_, rfl⟩
   have HSk1 := Lib.hid (HSk.out a e ha he)
   rw [ha] at hal hcl
   rw [he] at hel HAT
   clear ha he HSk
   have hm := Nat.mod_lt (c + (a + e)) (show 0 < 1000000000 by omega)
   go_wp2
   go_quiet ((go_at_call 194; exact Calls.quiet_of_same (HAT.out _ hR1.out)))
   go_wp2
   have hcast : (((c + (a + e)) % 1000000000 : Nat) : Int) = ((c : Int) + ((a : Int) + (e : Int))) % 1000000000 := by omega
   go_roundw
   case rel =>
    refine ⟨k + 1, (c + (a + e)) / 1000000000, by omega, by go_num, by go_num, HSk1.out.2, ?_, ?_⟩
    ·have h := HK.out.set (o + k) (((c : Int) + ((a : Int) + (e : Int))) % 1000000000)
     rw [← hcast, ← HSk1.out.1, mixF_set, HSk1.out.1, hcast] at h
     exact h.drewN nq
    ·exact grownBy_trans HG.out ⟨rfl, rfl, rfl, by simp [World.setCell], fun j _ hj => Below.heap_setCell wr ⟨g, o + k, none⟩ _ j (fun e => hj (by rw [e]))⟩
   case measure => simp [intOf]; omega
  ·obtain rfl : k = len := by omega
   have HO2 : Hid (OwnI wr B (.slice (some ⟨g, 0, none⟩) N N) (listF N (digF (putN R o k (highP P v k))))) := by rw [← HF.out]; exact HK
   go_wp2
   go_end0
   exact ⟨⟨_, rfl⟩, HO2.out, HG.out⟩
end Go.Proofs.YtlepgkkpopjgoaaGreat
namespace Go.Proofs.YtlepgkkpopjgoaaGreat
set_option maxRecDepth 100000
set_option linter.unusedVariables false
set_option linter.unusedSimpArgs false
open Go.RowKit Go.Shelf Go.WideShapes
set_option maxRecDepth 100000
attribute [local go_sem] Oper.semAt_some wide_fn
theorem limI_one {s : Nat} (h0 : 0 < s) (h1 : s < 1000000000) : limI s = [(s : Int)] := by
 have h : nlen s = 0 + 1 := nlen_eq (by rw [pw_succ, pw_zero]; omega) (by rw [pw_zero]; omega)
 unfold limI
 rw [h]
 simp [listF, List.range_succ, dig, pw]
 omega
theorem knA_desc (v n U kq : Nat) (hv : nlen v = n + 2) (hU : U < v * pw kq) : ∀ k, k ≤ kq → (knA v n U (descN kq k)).1 = U % (v * pw (kq - k)) ∧ ∀ j, j < kq → (knA v n U (descN kq k)).2 j = if kq - k ≤ j then digF (U / v) j else 0
 | 0, _ => by
  refine ⟨by rw [descN_zero, Nat.sub_zero, Nat.mod_eq_of_lt hU]; rfl, fun j hj => ?_⟩
  rw [if_neg (by omega)]; rfl
 | k + 1, h => by
  have h3 : 0 < v := by have := (nlen_pos_iff v); omega
  obtain ⟨ih1, ih2⟩ := knA_desc v n U kq hv hU k (by omega)
  obtain ⟨i, hi⟩ : ∃ i, kq - 1 - k = i := ⟨_, rfl⟩
  rw [descN_succ, knA_snoc, hi]
  rw [show kq - k = i + 1 by omega] at ih1 ih2
  rw [show kq - (k + 1) = i by omega]
  have hk := kn_right (R := U % (v * pw (i + 1))) hv (mod_lt_mul h3)
  unfold knF
  rw [ih1, hk.1, hk.2, kn_rest, kn_digit]
  refine ⟨rfl, fun j hj => ?_⟩
  show (if j = i then _ else _) = _
  by_cases e : j = i
  ·subst e; rw [if_pos rfl, if_pos (Nat.le_refl _)]; rfl
  ·rw [if_neg e, ih2 j hj]
   by_cases h1 : i + 1 ≤ j
   ·rw [if_pos h1, if_pos (by omega)]
   ·rw [if_neg h1, if_neg (by omega)]
theorem part_row {w : World} {B g N R o len : Nat} (h : OwnI w B (.slice (some ⟨g, 0, none⟩) N N) (listF N (digF R))) (ho : o + len ≤ N) : RowOf iV w (.slice (some ⟨g, o, none⟩) len (N - o)) (listF len (digF (R / pw o % pw len))) := by
 refine ⟨some ⟨g, o, none⟩, N - o, by rw [listF_length], by rw [listF_length]; omega, Nat.le_trans (Nat.sub_le _ _) h.cap_le.2, fun i hi => ⟨g, o, rfl, ?_⟩⟩
 rw [listF_length] at hi
 rw [h.cell (o + i) (by rw [listF_length]; omega), listF_get, listF_get]
 unfold digF iV
 rw [dig_part R o len i hi]
theorem rd_own {w : World} {B g n c : Nat} {l : List Int} (h : OwnI w B (.slice (some ⟨g, 0, none⟩) n c) l) : Rd (fun _ _ => True) (some ⟨g, 0, none⟩) n w := fun i hi =>
 ⟨g, 0, _, rfl, trivial, by rw [Nat.zero_add]; exact h.cell i (by rw [h.len]; exact hi)⟩
theorem fill_lim {N U : Nat} (hU : nlen U ≤ N) : (limI U) ++ (listF N (fun _ => 0)).drop (nlen U) = listF N (digF U) := by
 apply List.ext_getElem
 ·simp [limI_length, listF_length]; omega
 ·intro i h1 h2
  rw [listF_length] at h2
  rw [listF_get]
  by_cases h : i < nlen U
  ·rw [List.getElem_append_left (by rw [limI_length]; exact h), limI_get]; rfl
  ·rw [List.getElem_append_right (by rw [limI_length]; omega), List.getElem_drop, listF_get]
   unfold digF; rw [dig_past (by omega)]; rfl
theorem nlen_scale {x s m : Nat} (hx : nlen x = m) (hs : s ≤ 500000000) : nlen (x * s) ≤ m + 1 := by
 rw [nlen_le_iff, pw_succ, ← hx]
 have h1 := lt_pw_nlen x
 have h2 : x * s ≤ x * 500000000 := Nat.mul_le_mul_left _ hs
 have h3 := pw_pos (nlen x)
 omega
theorem ownI_heap {w : World} {B g n : Nat} {l : List Int} (h : OwnI w B (.slice (some ⟨g, 0, none⟩) n n) l) : w.heap[g]? = some (.cells (l.map iV).toArray 3 (0, 0)) := by
 have hl := h.len
 rcases h.2 with ⟨hv, _⟩ | ⟨g', cap, cur, hv, _, hg, _, _, hc, ht⟩
 ·cases hv
 ·injection hv with e1 e2 e3
  injection e1 with e1
  injection e1 with e1 _ _
  subst e1 e3
  rw [hg]
  have : cur.toList = l.map iV := by
   rw [← ht, List.take_of_length_le]
   simp; omega
  rw [← this]
theorem heap_ownI {w : World} {B g n : Nat} {l : List Int} (h : w.heap[g]? = some (.cells (l.map iV).toArray 3 (0, 0))) (hB : B ≤ g) (hl : l.length = n) (hn : n ≤ maxLen) : OwnI w B (.slice (some ⟨g, 0, none⟩) n n) l := by
 refine ⟨by simp, .inr ⟨g, n, _, by rw [hl], hB, h, by omega, hn, by simp [hl], ?_⟩⟩
 apply List.take_of_length_le
 simp
theorem setRow_grown (w : World) (g : Nat) (cs : Array Value) : w.grownBy (w.setRow g cs) (some g) :=
 ⟨rfl, rfl, rfl, by simp [World.setRow], fun k _ hk => setRow_other w g k cs (fun e => hk (by rw [e]))⟩
theorem step_copy_lim {ops : Array Oper} {o : Oper} {a : Act} {w : World} {K : Act → World → Prop} {Q : Exit → Act → World → Prop} {E : Prop} (hgd : o.guard = none) (d s : Operand)
  (ho : o.op = .call { callee := .builtin .copy, args := #[d, s], argTypes := #[120, 120] }) (g N U B Bs : Nat) (v : Value) (hd : a.eval d = .slice (some ⟨g, 0, none⟩) N N) (hs : a.eval s = v)
  (hO : OwnI w B (.slice (some ⟨g, 0, none⟩) N N) (listF N (fun _ => 0))) (hS : OwnI w Bs v (limI U)) (hU0 : 0 < U) (hU : nlen U ≤ N) (hN : N ≤ 1000) (hB : B ≤ g)
  (h : ∀ w', OwnI w' B (.slice (some ⟨g, 0, none⟩) N N) (listF N (digF U)) → w.grownBy w' (some g) → K (a.put o.dst (goInt (nlen U))) w') :
  if Region.wanted o (yielded ops a.tmps) = true then Oper.wp Tryz.prog o a w K Q else E := by
 have hw : Region.wanted o (yielded ops a.tmps) = true := by simp [Region.wanted, hgd]
 rw [if_pos hw]
 obtain ⟨i0, hi, hz0, hz1, hz2⟩ := info_parts info_int
 have hlen : (limI U).length = nlen U := limI_length U
 obtain ⟨ga, c, rfl, _, _⟩ : ∃ ga c, v = .slice (some ⟨ga, 0, none⟩) (nlen U) c ∧ Bs ≤ ga ∧ ga < w.heap.size := by
  rcases hS.form with ⟨_, h0⟩ | ⟨ga, c, hv, h1, h2⟩
  ·rw [h0] at hlen
   have := (nlen_pos_iff U).2 hU0
   simp at hlen; omega
  ·exact ⟨ga, c, by rw [← hlen]; exact hv, h1, h2⟩
 have hrun := run_copy_row (P := Tryz.prog) w 120 120 o.type 3 g 0 N N ⟨ga, 0, none⟩ (nlen U) c ((listF N (fun _ => 0)).map iV).toArray 3 ((limI U).map iV) Tryz.underlying120 (by simp [hi, hz1]) (ownI_heap hO)
  (by rw [List.length_map, hlen]; exact (Nat.min_eq_left hU).symm)
  (fun j u hj => by
   obtain ⟨hj1, hj2⟩ := List.getElem?_eq_some_iff.1 hj
   rw [List.length_map] at hj1
   have := hS.cell j hj1
   rw [List.getElem_map] at hj2
   have e9 : (⟨ga, 0, none⟩ : Addr).add j = ⟨ga, j, none⟩ := by simp [Addr.add]; exact fun h => h.symm
   rw [e9, this, ← hj2]; rfl)
  (by simp [hlen, listF_length]; exact hU) (fun u hu => by
   obtain ⟨z, _, rfl⟩ := List.mem_map.1 hu
   rfl)
 have e : ((((listF N (fun _ => 0)).map iV).toArray.toList.take 0 ++ (limI U).map iV ++ ((listF N (fun _ => 0)).map iV).toArray.toList.drop (0 + ((limI U).map iV).length)).toArray) = ((listF N (digF U)).map iV).toArray := by
  rw [← fill_lim hU]
  simp [hlen]
 rw [e] at hrun
 unfold Oper.wp
 simp [execOp, ho, resolve, invoke, builtin, hd, hs, hrun, Result.andThen]
 have hg := h (w.setRow g ((listF N (digF U)).map iV).toArray) (heap_ownI (setRow_heap w g _ _ _ _ (ownI_heap hO)) hB (listF_length _ _) (by unfold maxLen; omega)) (setRow_grown _ _ _)
 have e8 : ((limI U).map iV).length = nlen U := by rw [List.length_map, hlen]
 simp only [hlen]
 exact hg
theorem impl_timesL (va vb : Value) (x y L : Nat) (w : World) (ha : RowOf iV w va (limI x)) (hb : RowOf iV w vb (limI y)) (hx : nlen x ≤ 1000) (hy : nlen y ≤ 1000) (h0 : 0 < x * y) (hL : nlen (x * y) = L) :
  Calls Tryz.prog 144 #[va, vb] w fun e w' => ∃ d c, e = .returned (.slice (some ⟨d, 0, none⟩) L c) ∧ w.heap.size ≤ d ∧ d < w'.heap.size ∧ OwnI w' w.heap.size (.slice (some ⟨d, 0, none⟩) L c) (limI (x * y)) ∧ Below w.heap.size w w' := by
 refine (impl_times va vb x y w ha hb hx hy).mono ?_
 rintro e w' ⟨v, rfl, ho, hB⟩
 rcases ho.form with ⟨_, hl⟩ | ⟨d, c, hv, h1, h2⟩
 ·have e := congrArg List.length hl
  rw [limI_length] at e
  have := (nlen_pos_iff (x * y)).2 h0
  simp at e; omega
 ·rw [limI_length, hL] at hv
  subst hv
  exact ⟨d, c, rfl, h1, h2, ho, hB⟩
theorem OwnI.apart {w w' : World} {B g n c g' : Nat} {l : List Int} (h : OwnI w B (.slice (some ⟨g, 0, none⟩) n c) l) (hg : w.grownBy w' (some g')) (hne : g ≠ g') : OwnI w' B (.slice (some ⟨g, 0, none⟩) n c) l :=
 h.other hg (fun a b e1 e2 => by
  have e1 : g = a := by simpa [Value.ownBlock] using e1
  have e2 : g' = b := by simpa using e2
  subst e1 e2; exact hne)
theorem boxed_apart {W W' : World} {B g : Nat} {t : TypeId} {v : Value} (h : Boxed W B t v) (hg : W.grownBy W' (some g)) (hne : B ≠ g) : Boxed W' B t v := h.kept hg (fun e => hne (by injection e))
theorem boxed_below {W W' : World} {B : Nat} {t : TypeId} {v : Value} (h : Boxed W B t v) (hb : Below W.heap.size W W') : Boxed W' B t v := h.kept (grownBy_of_below hb none) (by simp)
theorem below_grown1 {B : Nat} {a w w' : World} {g : Nat} (h : Below B a w) (hg : w.grownBy w' (some g)) (hB : B ≤ g) (hS : B ≤ w.heap.size) : Below B a w' := h.grown hg hS (fun k e => by injection e with e; omega)
end Go.Proofs.YtlepgkkpopjgoaaGreat
namespace Go.Proofs.YtlepgkkpopjgoaaGreat
set_option maxRecDepth 100000
set_option linter.unusedVariables false
set_option linter.unusedSimpArgs false
open Go.RowKit Go.Shelf
structure DvB (h d c k e n N kq b2 o2 cb v : Nat) (w : World) (R : Nat) (q : Nat → Int) (W : World) : Prop where
 bb : Boxed W h 120 (.slice (some ⟨b2, o2, none⟩) (n + 2) cb)
 bd : Boxed W k 120 (.slice (some ⟨d, 0, none⟩) (n + 2) c)
 od : OwnI W (h + 1) (.slice (some ⟨d, 0, none⟩) (n + 2) c) (limI v)
 or : OwnI W (k + 1) (.slice (some ⟨k + 1, 0, none⟩) N N) (listF N (digF R))
 br : Boxed W (k + 1 + 1) 120 (.slice (some ⟨k + 1, 0, none⟩) N N)
 oq : OwnI W e (.slice (some ⟨e, 0, none⟩) kq kq) (listF kq q)
 bq : Boxed W (e + 1) 120 (.slice (some ⟨e, 0, none⟩) kq kq)
 bl : Below h w W
 sz : e + 1 + 1 < W.heap.size
section
variable {h d c k e n N kq b2 o2 cb v : Nat} {w : World} {R : Nat} {q : Nat → Int} {W W' : World}
theorem DvB.row (st : DvB h d c k e n N kq b2 o2 cb v w R q W) (h1 : h + 1 < d) (h2 : d < k) (h3 : k + 1 + 1 + 1 < e) {R' : Nat} (o : OwnI W' (k + 1) (.slice (some ⟨k + 1, 0, none⟩) N N) (listF N (digF R'))) (g : W.grownBy W' (some (k + 1))) : DvB h d c k e n N kq b2 o2 cb v w R' q W' :=
 ⟨boxed_apart st.bb g (by omega), boxed_apart st.bd g (by omega), st.od.apart g (by omega), o, boxed_apart st.br g (by omega), st.oq.apart g (by omega), boxed_apart st.bq g (by omega), below_grown1 st.bl g (by omega) (by have := st.bd.lt; omega), by have := st.sz; have := g.size; omega⟩
theorem DvB.dig (st : DvB h d c k e n N kq b2 o2 cb v w R q W) (h1 : h + 1 < d) (h2 : d < k) (h3 : k + 1 + 1 + 1 < e) (i : Nat) (z : Int) : DvB h d c k e n N kq b2 o2 cb v w R (fun j => if j = i then z else q j) (W.setCell ⟨e, i, none⟩ (.int .i64 z)) :=
 have g := setCell_grown W e i (.int .i64 z)
 ⟨boxed_apart st.bb g (by omega), boxed_apart st.bd g (by omega), st.od.apart g (by omega), st.or.apart g (by omega), boxed_apart st.br g (by omega), by rw [← listF_set]; exact st.oq.set i z, boxed_apart st.bq g (by omega), below_grown1 st.bl g (by omega) (by have := st.bd.lt; omega), by have := st.sz; have := g.size; omega⟩
theorem DvB.drewN (st : DvB h d c k e n N kq b2 o2 cb v w R q W) (j : Nat) : DvB h d c k e n N kq b2 o2 cb v w R q (W.drewN j) := ⟨st.bb, st.bd, st.od, st.or, st.br, st.oq, st.bq, below_drewN st.bl j, st.sz⟩
theorem DvB.drew (st : DvB h d c k e n N kq b2 o2 cb v w R q W) : DvB h d c k e n N kq b2 o2 cb v w R q W.drew := ⟨st.bb, st.bd, st.od, st.or, st.br, st.oq, st.bq, st.bl.drew, st.sz⟩
end
structure DvR (h e : Nat) (W W' : World) : Prop where
 bl : Below h W W'
 bx : W'.heap[e + 1 + 1]? = W.heap[e + 1 + 1]?
 kf : KeepsFrom (e + 1 + 1 + 1) W W'
section
variable {h e : Nat} {W W' W2 : World}
theorem DvR.refl (W : World) : DvR h e W W := ⟨Below.refl _ _, rfl, KeepsFrom.refl _ _⟩
theorem DvR.grown {g : Nat} (s : DvR h e W W') (hg : W'.grownBy W2 (some g)) (h1 : h ≤ g) (h2 : g < e + 1 + 1) (hs : h ≤ W'.heap.size) (hs2 : e + 1 + 1 < W'.heap.size) : DvR h e W W2 :=
 ⟨below_grown1 s.bl hg h1 hs, (hg.block _ hs2 (fun e => by injection e with e; omega)).trans s.bx, s.kf.trans (KeepsFrom.of_grownBy hg (fun j e => by injection e with e; omega))⟩
theorem DvR.drewN (s : DvR h e W W') (j : Nat) : DvR h e W (W'.drewN j) := ⟨below_drewN s.bl j, s.bx, s.kf.trans ⟨Nat.le_refl _, fun _ _ _ h _ => h⟩⟩
theorem DvR.drew (s : DvR h e W W') : DvR h e W W'.drew := ⟨s.bl.drew, s.bx, s.kf.trans ⟨Nat.le_refl _, fun _ _ _ h _ => h⟩⟩
end
theorem DvB.own {β : Type} {h d c k e n N kq b2 o2 cb v : Nat} {w : World} (h1 : h + 1 < d) (h2 : d < k) (h3 : k + 1 + 1 + 1 < e) (R : β → Nat) (q : β → Nat → Int) : OwnFrom (e + 1 + 1 + 1) (fun (s : β) W => DvB h d c k e n N kq b2 o2 cb v w (R s) (q s) W) := fun s A B row st hg hr =>
 have hb : ∀ g, g < e + 1 + 1 + 1 → some g ≠ row := fun g hl e' => by have := (hr g e'.symm).1; omega
 have ho : ∀ {B0 g n c : Nat} {l : List Int}, g < e + 1 + 1 + 1 → OwnI A B0 (.slice (some ⟨g, 0, none⟩) n c) l → OwnI B B0 (.slice (some ⟨g, 0, none⟩) n c) l := fun {_ g _ _ _} hl ho => ho.other hg (fun a b e1 e2 => by
  have e1 : g = a := by simpa [Value.ownBlock] using e1
  have := (hr b e2).1
  omega)
 ⟨st.bb.kept hg (hb _ (by omega)), st.bd.kept hg (hb _ (by omega)), ho (by omega) st.od, ho (by omega) st.or, st.br.kept hg (hb _ (by omega)), ho (by omega) st.oq, st.bq.kept hg (hb _ (by omega)), st.bl.grown hg (by have := st.bd.lt; omega) (fun k' e' => by have := (hr k' e').1; omega), by have := st.sz; have := hg.size; omega⟩
theorem DvB.kp {h d c k e n N kq b2 o2 cb v : Nat} {w : World} {R : Nat} {q : Nat → Int} {W W' : World} (st : DvB h d c k e n N kq b2 o2 cb v w R q W') (s : DvR h e W W') : KpB (fun _ _ => True) (some ⟨e, 0, none⟩) kq (e + 1 + 1) h W W' := ⟨s.bl, s.bx, fun _ => rd_own st.oq⟩
theorem kn_hi {v n R i P g : Nat} (hP : R / pw i % pw (n + 3) = P) (hg : P / pw n / (v / pw n) = g) (h : P < g * v) : knQ v n R i = g - 1 ∧ knR v n R i = putN R i (n + 3) (highP (lowP P g v (n + 3)) v (n + 3)) := by
 subst hP hg
 unfold knR knP knQ
 dsimp only
 rw [if_pos h, if_pos h]
 exact ⟨rfl, rfl⟩
theorem kn_lo {v n R i P g : Nat} (hP : R / pw i % pw (n + 3) = P) (hg : P / pw n / (v / pw n) = g) (h : ¬ P < g * v) : knQ v n R i = g ∧ knR v n R i = putN R i (n + 3) (lowP P g v (n + 3)) := by
 have hPl : P < pw (n + 3) := by rw [← hP]; exact Nat.mod_lt _ (pw_pos _)
 rw [lowP_sub hPl (by omega)]
 subst hP hg
 unfold knR knP knQ
 dsimp only
 rw [if_neg h, if_neg h]
 exact ⟨rfl, rfl⟩
theorem kn_raised {v n R i P g : Nat} : putN (putN R i (n + 3) (lowP P g v (n + 3))) i (n + 3) (highP (putN R i (n + 3) (lowP P g v (n + 3)) / pw i % pw (n + 3)) v (n + 3)) = putN R i (n + 3) (highP (lowP P g v (n + 3)) v (n + 3)) := by
 rw [dig_part_putN _ _ _ _ (lowP_lt _ _ _ _), putN_putN _ _ _ _ _ (lowP_lt _ _ _ _)]
theorem kn_twice {q : Nat → Int} {i : Nat} {a b : Int} : (fun j => if j = i then a else (fun j => if j = i then b else q j) j) = fun j => if j = i then a else q j := by
 funext j
 by_cases e : j = i
 ·simp [e]
 ·simp [e]
end Go.Proofs.YtlepgkkpopjgoaaGreat
