/- Division in the model: by one limb, and by many. -/
import Derived.Test.YtofmpfcbdemcnaaCmpLaw
import Derived.Test.YtofmpfcbdemcnaaMulLaw
import Derived.Laws.AppendOwnNone
namespace Go.Proofs.Ytofmpfcbdemcnaa
open Go.RowKit Go.WideShapes Go.ChangeShapes

/-- two results share no block -/
def Apart (v0 v1 : Value) : Prop := ∀ g g', v0.ownBlock = some g → v1.ownBlock = some g' → g ≠ g'
theorem Apart.nil (v : Value) : Apart (.slice none 0 0) v := fun g g' h _ => by simp [Value.ownBlock] at h
theorem OwnI.lit1 (w : World) (B : Nat) (d : Int) (hB : B ≤ w.heap.size) : OwnI (w.alloc (.cells #[.int .i64 d] 3)) B (.slice (some ⟨w.heap.size, 0, none⟩) 1 1) [d] :=
  World.ownsRow_lit (base := B) (e := 3) (size := 1) w #[.int .i64 d] 1 hB (by unfold maxLen; omega) (by simp)

theorem append_none_run {w : World} (T : TypeId) (hT : Try.prog.underlying T = some (.slice 3)) (ty : TypeId) (B c : Nat) (v : Value) (l : List Int) (hown : OwnI w B v l) : (Builtin.append_ #[T, T] ty #[v, .slice none 0 c]).run Try.prog w = .ok v w := by
  obtain ⟨i0, hi, hz0, hz1, hz2⟩ := info_parts info_int
  rcases hown.2 with ⟨rfl, _⟩ | ⟨g, cap, cur, rfl, _, _, hnc, _⟩
  · simp [Builtin.append_, run_underlying hT, sizeOf, typeInfo, hi, Builtin.lenOf, Builtin.firstCells]
  · simp [Builtin.append_, run_underlying hT, sizeOf, typeInfo, hi, Builtin.lenOf, Builtin.firstCells, hnc, storeCells]
/-- 'append(s, x...)' onto a row of ints of the call's own -/
theorem append_ints {ops : Array Oper} {rest : List Oper} {o : Oper} {a : Act} {Q : Exit → Act → World → Prop} {w : World} (hgd : o.guard = none) (s x : Operand) (T : TypeId) (hT : Try.prog.underlying T = some (.slice 3))
    (ho : o.op = .call { callee := .builtin .append, args := #[s, x], argTypes := #[T, T] })
    (B : Nat) (v vx : Value) (l l2 : List Int) (hs : a.eval s = v) (hown : OwnI w B v l) (hx : a.eval x = vx) (hr : RowOf iV w vx l2)
    (hn : l.length + l2.length ≤ 1099511627776) (hB : B ≤ w.heap.size)
    (h : ∀ v' w', OwnI w' B v' (l ++ l2) → w.grownBy w' v.ownBlock → wpList Try.prog ops Q rest (a.put o.dst v') w') : wpList Try.prog ops Q (o :: rest) a w := by
  obtain ⟨i0, hi, hz0, hz1, hz2⟩ := info_parts info_int
  obtain ⟨ax, c, rfl, hc, hm, hcell⟩ := hr
  cases ax with
  | none =>
    have hl2 : l2 = [] := by
      cases l2 with
      | nil => rfl
      | cons y r => obtain ⟨b, o, e, _⟩ := hcell 0 (by simp); cases e
    subst hl2
    refine wpList_plain hgd fun K hK => ?_
    have hrun := append_none_run (w := w) T hT o.type B c v l hown
    unfold Oper.wp
    simp only [List.length_nil] at hx
    simp [execOp, ho, resolve, invoke, builtin, hs, hx, hrun, Result.andThen]
    exact hK _ _ (h v w (by rw [List.append_nil]; exact hown) (grownBy_refl _ _))
  | some ad =>
    refine wpList_append_own w hgd s x T ho B 3 i0 (.int .i64 0) 1 8 hT hi hz0 hz1 hz2 rfl (by decide) v l.length (l.map iV) hs hown ad l2.length c (l2.map iV) hx (by simp) ?_ (by simp [Value.oneCell', iV]) (by unfold maxLen; omega) (by omega) hB ?_
    · intro j u hj
      obtain ⟨hjl, hje⟩ := List.getElem?_eq_some_iff.1 hj
      have hjl2 : j < l2.length := by simpa using hjl
      obtain ⟨b, o', e, hx'⟩ := hcell j hjl2
      injection e with e
      subst e
      rw [add_plain, hx', ← hje]
      simp
    · intro v' w' h1 h2 _
      refine h v' w' ?_ h2
      unfold OwnI
      simpa using h1

set_option maxHeartbeats 400000 in
theorem spec_trimB (v : Value) (T n B : Nat) (w : World) (h : OwnI w B v (listF n (digF T))) (hT : nlen T ≤ n) :
    Calls Try.prog 65 #[v] w fun e w' => ∃ v', e = .returned v' ∧ OwnI w B v' (limI T) ∧ (∀ k, v'.ownBlock = some k → v.ownBlock = some k) ∧ w' = w := by
  rcases h.form with ⟨rfl, hl⟩ | ⟨g, c, hv, hB, hg⟩
  · have hn : n = 0 := by have := congrArg List.length hl; rw [listF_length] at this; simpa using this
    have hT0 : limI T = [] := by
      have : nlen T = 0 := by omega
      unfold limI; rw [this]; rfl
    have HT := Lib.hid hT0
    clear hT0 hl hT h hn
    go_enter Try.func65, Try.ntmps65
    go_wp2
    go_loop [3] (fun sv => sv = .int .i64 0) (fun _ => 0)
    case atStart => rfl
    case round =>
      subst hrel
      go_wp2
      go_ret
      exact ⟨_, rfl, by rw [HT.out]; exact OwnI.nil _ _, fun k h => h, rfl⟩
  · rw [listF_length] at hv
    subst hv
    have hcm := h.cap_le
    unfold maxLen at hcm
    have H := Lib.hid h
    clear h hg
    go_enter Try.func65, Try.ntmps65
    go_wp2
    go_loop [3] (fun sv => ∃ k : Nat, k ≤ n ∧ nlen T ≤ k ∧ sv = .int .i64 k) (fun sv => (intOf sv).toNat)
    case atStart => exact ⟨n, Nat.le_refl _, hT, rfl⟩
    case round =>
      obtain ⟨k, hk, hTk, rfl⟩ := hrel
      by_cases hp : 0 < k
      · have hcl := H.out.cell (k - 1) (by rw [listF_length]; omega)
        rw [listF_get] at hcl
        unfold digF at hcl
        have e1 : ((k : Int) - 1).toNat = k - 1 := by omega
        have HM := Lib.hid (trim_more hTk hp)
        have HD := Lib.hid (trim_done hTk hp)
        obtain ⟨d, hd⟩ : ∃ d, dig T (k - 1) = d := ⟨_, rfl⟩
        rw [hd] at hcl HM HD
        clear hd
        by_cases h0 : d = 0
        · have HM2 := Lib.hid (HM.out h0)
          subst h0
          go_wp2
          go_round
          case rel => exact ⟨k - 1, by omega, HM2.out, by go_num⟩
          case measure => simp [intOf]; omega
        · have HD2 := Lib.hid (HD.out h0)
          have hb : ((d : Int) == 0) = false := by simp; exact h0
          clear h0
          go_wp2
          go_ret
          refine ⟨_, rfl, ?_, fun k h => h, rfl⟩
          have := H.out.take hk
          rw [HD2.out, limI_take (by have := HD2.out; omega)] at this
          have e := HD2.out
          rw [← e] at this
          exact this
      · obtain rfl : k = 0 := by omega
        have HT : Hid (limI T = []) := by
          unfold Hid
          have : nlen T = 0 := by omega
          unfold limI; rw [this]; rfl
        go_wp2
        go_ret
        refine ⟨_, rfl, ?_, fun k h => h, rfl⟩
        have := H.out.take (Nat.zero_le _)
        rw [List.take_zero] at this
        rw [HT.out]
        exact this

/-! by one limb -/
theorem div_step2 {x n j r d : Nat} (hd : 0 < d) (hr : r = x / pw (j + 1) % d) {e : Nat} (he : dig x j = e) : ((r * 1000000000 + e) / d = dig (x / d) j) ∧ ((r * 1000000000 + e) % d = x / pw j % d) ∧ (n = n) := by
  rw [hr, ← he]
  exact ⟨(div_digit x d j hd).1, (div_digit x d j hd).2, rfl⟩
theorem nlen_div {x d : Nat} : nlen (x / d) ≤ nlen x := nlen_mono (Nat.div_le_self _ _)

set_option maxHeartbeats 1000000 in
theorem spec_small (va : Value) (x d : Nat) (w : World) (ha : RowOf iV w va (limI x)) (hd0 : 0 < d) (hd1 : d < 1000000000) (hx : nlen x ≤ 1000) :
    Calls Try.prog 69 #[va, .int .i64 d] w fun e w' => ∃ v, e = .returned (.tuple #[v, .int .i64 ((x % d : Nat) : Int)]) ∧ OwnI w' w.heap.size v (limI (x / d)) ∧ Below w.heap.size w w' := by
  have RA := Lib.hid ha
  obtain ⟨aa, ca, rfl, h1, h2, h3⟩ := ha
  clear h1 h2 h3
  rw [limI_length] at RA ⊢
  have HD := Lib.hid (fun (j r e : Nat) hr he => div_step2 (n := 0) (x := x) (j := j) (r := r) (d := d) hd0 hr (e := e) he)
  have HT := Lib.hid (nlen_div (x := x) (d := d))
  have HLT := Lib.hid (lt_pw_nlen x)
  obtain ⟨n, hn⟩ : ∃ n, nlen x = n := ⟨_, rfl⟩
  rw [hn] at hx RA HT HLT ⊢
  have HN := Lib.hid hn
  clear hn
  have hmk := make_ints n (by omega)
  have HO := Lib.hid (zeroObj_own w w.heap.size n (Nat.le_refl _) (by omega))
  have HB := Lib.hid ((Below.refl w.heap.size w).alloc (Nat.le_refl _) (zeroObj n))
  have hdz : ((d : Int) == 0) = false := by simp; omega
  have hd2 : (0 : Int) < (d : Int) := by omega
  go_enter Try.func69, Try.ntmps69
  go_wp2
  clear hmk
  generalize w.alloc (zeroObj n) = W1 at HO HB ⊢
  obtain ⟨g, hg⟩ : ∃ g, w.heap.size = g := ⟨_, rfl⟩
  rw [hg] at HO HB ⊢
  have HG := Lib.hid hg
  clear hg
  go_loopw [7, 8] (fun rv iv wr => ((∃ j r : Nat, j < n ∧ iv = .int .i64 (j : Int) ∧ rv = .int .i64 r ∧ r < d ∧ Hid (r = x / pw (j + 1) % d) ∧ Hid (OwnI wr g (.slice (some ⟨g, 0, none⟩) n n) (fillD n (j + 1) (digF (x / d)) (fun _ => 0)))) ∨
      (iv = .int .i64 (-1) ∧ rv = .int .i64 ((x % d : Nat) : Int) ∧ Hid (OwnI wr g (.slice (some ⟨g, 0, none⟩) n n) (listF n (digF (x / d)))))) ∧ Hid (Below g w wr)) (fun _ iv _ => (intOf iv + 1).toNat)
  case atStart =>
    refine ⟨?_, HB⟩
    by_cases hl : 0 < n
    · exact .inl ⟨n - 1, 0, by omega, by go_num, rfl, hd0, by unfold Hid; rw [show n - 1 + 1 = n by omega, Nat.div_eq_of_lt HLT.out, Nat.zero_mod], by rw [show n - 1 + 1 = n by omega, fillD_none]; exact HO⟩
    · obtain rfl : n = 0 := by omega
      exact .inr ⟨rfl, by have h := HLT.out; rw [pw_zero] at h; rw [show x = 0 by omega, Nat.zero_mod]; rfl, HO⟩
  case round =>
    obtain ⟨hc, HBk⟩ := hrel
    rcases hc with ⟨j, r, hj, rfl, rfl, hr, HR, HK⟩ | ⟨rfl, rfl, HK⟩
    · obtain ⟨b1, o1, rfl, hx1⟩ := row_limb (rowOf_below RA.out (by rw [HG.out]; exact HBk.out)) (k := j) (by rw [HN.out]; exact hj)
      have hel := dig_lt x j
      have HS := Lib.hid (fun e he => HD.out j r e HR.out he)
      obtain ⟨e, he⟩ : ∃ e, dig x j = e := ⟨_, rfl⟩
      rw [he] at hx1 hel
      have HS1 := Lib.hid (HS.out e he)
      obtain ⟨q, hq⟩ : ∃ q, (r * 1000000000 + e) / d = q := ⟨_, rfl⟩
      obtain ⟨r', hr'⟩ : ∃ r', (r * 1000000000 + e) % d = r' := ⟨_, rfl⟩
      have hrl : r' < d := by rw [← hr']; exact Nat.mod_lt _ hd0
      rw [hq, hr'] at HS1
      have hqi : ((r : Int) * 1000000000 + (e : Int)) / (d : Int) = (q : Int) := by rw [← hq]; simp
      have hri : ((r : Int) * 1000000000 + (e : Int)) % (d : Int) = (r' : Int) := by rw [← hr']; simp
      have hcl := HK.out.cell j (by rw [fillD_length]; exact hj)
      have hfz := HK.out.frozen j
      have HO2 := Lib.hid (HK.out.set j (q : Int))
      have HB2 := Lib.hid (HBk.out.setCell (p := ⟨g, j, none⟩) (Nat.le_refl _) (.int .i64 q))
      have HO3 : Hid (OwnI (wr.setCell ⟨g, j, none⟩ (.int .i64 q)) g (.slice (some ⟨g, 0, none⟩) n n) (fillD n j (digF (x / d)) (fun _ => 0))) := by
        have h := HO2.out
        have e2 := fillD_set (n := n) (k := j) (F := digF (x / d)) (G := fun _ => 0) hj
        rw [show digF (x / d) j = (q : Int) by unfold digF; rw [HS1.out.1]] at e2
        rw [e2] at h
        exact h
      clear hq hr' he HO2
      go_wp2
      go_roundw
      case rel =>
        refine ⟨?_, HB2⟩
        by_cases hj0 : 0 < j
        · exact .inl ⟨j - 1, r', by omega, by go_num, by rw [hri], hrl, by unfold Hid; rw [show j - 1 + 1 = j by omega]; exact HS1.out.2.1, by rw [show j - 1 + 1 = j by omega]; exact HO3⟩
        · obtain rfl : j = 0 := by omega
          exact .inr ⟨by go_num, by have h := HS1.out.2.1; rw [pw_zero, Nat.div_one] at h; rw [hri, h], by have h := HO3.out; rw [fillD_full] at h; exact h⟩
      case measure => simp [intOf]
    · have HT1 := Lib.hid (spec_trim _ (x / d) n g wr HK.out HT.out)
      go_wp2_with fail
      refine HT1.out.mono ?_
      rintro e w2 ⟨v', rfl, o, rfl⟩
      have O := Lib.hid o
      clear o
      go_wp2
      go_ret2
      exact ⟨_, rfl, by rw [HG.out]; exact O.out, by rw [HG.out]; exact HBk.out⟩

/-! one digit by halving -/
theorem cmp_le {y q R : Nat} (hy : 0 < y) : cmpN (y * q) R ≤ 0 ↔ q ≤ R / y := by
  rw [Nat.le_div_iff_mul_le hy, Nat.mul_comm q y]
  unfold cmpN
  split <;> (try split) <;> omega
theorem nlen_mul_small {y q : Nat} (hq : q < 1000000000) : nlen (y * q) ≤ nlen y + 1 := by
  rw [nlen_le_iff, pw_succ]
  exact Nat.mul_lt_mul'' (lt_pw_nlen y) hq
set_option maxHeartbeats 1000000 in
theorem spec_digit (vr vb : Value) (R y : Nat) (w : World) (hr : RowOf iV w vr (limI R)) (hb : RowOf iV w vb (limI y)) (hy0 : 0 < y) (hR : R < y * 1000000000) (hR1 : nlen R ≤ 900) (hy1 : nlen y ≤ 900) :
    Calls Try.prog 70 #[vr, vb] w fun e w' => e = .returned (.int .i64 ((R / y : Nat) : Int)) ∧ Below w.heap.size w w' := by
  have RR := Lib.hid hr
  have RB := Lib.hid hb
  obtain ⟨aa, ca, rfl, h1, h2, h3⟩ := hr
  obtain ⟨ab, cb, rfl, h4, h5, h6⟩ := hb
  clear h1 h2 h3 h4 h5 h6
  rw [limI_length] at RR RB ⊢
  rw [limI_length]
  have HC := Lib.hid (fun q => cmp_le (y := y) (q := q) (R := R) hy0)
  have HM := Lib.hid (fun q (h : q < 1000000000) => nlen_mul_small (y := y) h)
  have hgl : R / y < 1000000000 := (Nat.div_lt_iff_lt_mul hy0).2 (by rw [Nat.mul_comm]; exact hR)
  obtain ⟨G, hG⟩ : ∃ G, R / y = G := ⟨_, rfl⟩
  rw [hG] at HC hgl ⊢
  obtain ⟨nr, hnr⟩ : ∃ n, nlen R = n := ⟨_, rfl⟩
  obtain ⟨ny, hny⟩ : ∃ n, nlen y = n := ⟨_, rfl⟩
  rw [hnr] at RR hR1 ⊢
  rw [hny] at RB hy1 HM ⊢
  have HNR := Lib.hid hnr
  have HNY := Lib.hid hny
  clear hnr hny hG hR
  go_enter Try.func70, Try.ntmps70
  go_wp2
  go_loopw [5, 6] (fun lv hv wr => ∃ lo hi : Nat, lv = .int .i64 lo ∧ hv = .int .i64 hi ∧ lo ≤ G ∧ G ≤ hi ∧ hi ≤ 999999999 ∧ Hid (Below w.heap.size w wr)) (fun lv hv _ => (intOf hv - intOf lv).toNat)
  case atStart => exact ⟨0, 999999999, rfl, rfl, by omega, by omega, by omega, Below.refl _ _⟩
  case round =>
    obtain ⟨lo, hi, rfl, rfl, hlo, hhi, hh, HB⟩ := hrel
    by_cases hlt : lo < hi
    · obtain ⟨q, hq⟩ : ∃ q, (lo + hi + 1) / 2 = q := ⟨_, rfl⟩
      have hqi : ((lo : Int) + (hi : Int) + 1) / 2 = (q : Int) := by omega
      have hq1 : lo < q := by omega
      have hq2 : q ≤ hi := by omega
      have HQ := Lib.hid hq
      have HCq := Lib.hid (HC.out q)
      have HMq := Lib.hid (HM.out q (by omega))
      clear hq
      go_wp2_with fail
      refine (spec_natOf_nat q _ (by omega)).mono ?_
      rintro e w1 ⟨v1, rfl, o1, b1⟩
      have O1 := Lib.hid o1.row
      have B1 := Lib.hid (HB.out.trans (b1.mono HB.out.size))
      clear o1 b1
      go_wp2_with fail
      refine (spec_mulAny _ _ y q _ (rowOf_below RB.out B1.out) O1.out (by rw [HNY.out]; omega) (by have : nlen q ≤ 1 := (nlen_le_iff _ _).2 (by rw [pw_one]; omega); omega)).mono ?_
      rintro e w2 ⟨v2, rfl, o2, b2⟩
      have O2 := Lib.hid o2.row
      have B2 := Lib.hid (B1.out.trans (b2.mono B1.out.size))
      clear o2 b2
      go_wp2_with fail
      refine (spec_cmp _ _ (y * q) R _ O2.out (rowOf_below RR.out B2.out) (by have := HMq.out; omega) (by rw [HNR.out]; omega)).mono ?_
      rintro e w3 ⟨rfl, b3⟩
      have B3 := Lib.hid (B2.out.trans (b3.mono B2.out.size))
      clear b3
      have hcq := HCq.out
      obtain ⟨c, hc⟩ : ∃ c, cmpN (y * q) R = c := ⟨_, rfl⟩
      rw [hc] at hcq ⊢
      clear hc
      by_cases hle : q ≤ G
      · have hc0 : c ≤ 0 := hcq.2 hle
        clear hcq
        go_wp2
        go_roundw
        case rel => exact ⟨q, hi, rfl, rfl, hle, hhi, hh, B3⟩
        case measure => simp [intOf]; omega
      · have hc0 : ¬ c ≤ 0 := fun h => hle (hcq.1 h)
        clear hcq
        go_wp2
        go_roundw
        case rel => exact ⟨lo, q - 1, rfl, by go_num, hlo, by omega, by omega, B3⟩
        case measure => simp [intOf]; omega
    · obtain rfl : lo = G := by omega
      go_wp2
      go_ret
      exact ⟨rfl, HB.out⟩

/-! by many limbs -/
theorem cons_lim (r d : Nat) (hd : d < 1000000000) : (d : Int) :: limI r = listF (nlen r + 1) (digF (r * 1000000000 + d)) := by
  apply List.ext_getElem (by simp [limI_length, listF_length])
  intro i h1 h2
  rw [listF_get]
  cases i with
  | zero =>
    rw [List.getElem_cons_zero]
    unfold digF dig
    rw [pw_zero, Nat.div_one]
    omega
  | succ i =>
    rw [List.getElem_cons_succ, limI_get]
    unfold digF dig
    rw [show i + 1 = 1 + i by omega, pw_add, ← Nat.div_div_eq_div_mul, pw_one]
    congr 3
    omega
theorem nlen_cons (r d : Nat) (hd : d < 1000000000) : nlen (r * 1000000000 + d) ≤ nlen r + 1 := by
  rw [nlen_le_iff, pw_succ]
  have := lt_pw_nlen r
  omega
theorem fillD_skip {n k : Nat} {F G : Nat → Int} (h : F k = G k) : fillD n (k + 1) F G = fillD n k F G := by
  refine List.map_congr_left (fun i _ => ?_)
  by_cases e : i = k
  · subst e; rw [if_neg (by omega), if_pos (by omega), h]
  · by_cases h1 : k + 1 ≤ i
    · rw [if_pos h1, if_pos (by omega)]
    · rw [if_neg h1, if_neg (by omega)]
theorem small_lt {r y d : Nat} (hr : r < y) (hd : d < 1000000000) : r * 1000000000 + d < y * 1000000000 := by
  have : (r + 1) * 1000000000 ≤ y * 1000000000 := Nat.mul_le_mul_right _ hr
  omega
theorem sub_mod {T y : Nat} : T - y * (T / y) = T % y := by
  have := Nat.div_add_mod T y; omega

set_option maxHeartbeats 2000000 in
theorem spec_divMany (va vb : Value) (x y : Nat) (w : World) (ha : RowOf iV w va (limI x)) (hb : RowOf iV w vb (limI y)) (hy0 : 0 < y) (hx : nlen x ≤ 400) (hy : nlen y ≤ 400) (h1 : nlen y ≠ 1) :
    Calls Try.prog 54 #[va, vb] w fun e w' => ∃ v0 v1, e = .returned (.tuple #[v0, v1]) ∧ OwnI w' w.heap.size v0 (limI (x / y)) ∧ OwnI w' w.heap.size v1 (limI (x % y)) ∧ Apart v0 v1 ∧ Below w.heap.size w w' := by
  have RA := Lib.hid ha
  have RB := Lib.hid hb
  obtain ⟨aa, ca, rfl, e1, e2, e3⟩ := ha
  obtain ⟨ab, cb, rfl, e4, e5, e6⟩ := hb
  clear e1 e2 e3 e4 e5 e6
  rw [limI_length] at RA RB ⊢
  rw [limI_length]
  have HD := Lib.hid (fun (j r e : Nat) hr he => div_step2 (n := 0) (x := x) (j := j) (r := r) (d := y) hy0 hr (e := e) he)
  have HQ := Lib.hid (nlen_div (x := x) (d := y))
  have HLT := Lib.hid (lt_pw_nlen x)
  have HML := Lib.hid (fun z => Nat.mod_lt z hy0)
  have HNM := Lib.hid (fun z (h : z < y) => nlen_mono (Nat.le_of_lt h))
  obtain ⟨n, hn⟩ : ∃ n, nlen x = n := ⟨_, rfl⟩
  obtain ⟨m, hm⟩ : ∃ n, nlen y = n := ⟨_, rfl⟩
  rw [hn] at hx RA HQ HLT ⊢
  rw [hm] at hy RB h1 HNM ⊢
  have HN := Lib.hid hn
  have HM := Lib.hid hm
  clear hn hm
  have hm1 : ((m : Int) == 1) = false := by simp; omega
  have hmk := make_ints n (by omega)
  have HO := Lib.hid (zeroObj_own w w.heap.size n (Nat.le_refl _) (by omega))
  have HB := Lib.hid ((Below.refl w.heap.size w).alloc (Nat.le_refl _) (zeroObj n))
  have HSZ := Lib.hid (show (w.alloc (zeroObj n)).heap.size = w.heap.size + 1 by simp)
  go_enter Try.func54, Try.ntmps54
  go_wp2
  clear hmk hm1
  have HO1 := Lib.hid (HO.out.alloc (.cells #[] 3))
  have HB1 := Lib.hid (HB.out.alloc HB.out.size (.cells #[] 3))
  have HR1 := Lib.hid (OwnI.lit0 (w.alloc (zeroObj n)))
  rw [HSZ.out] at HR1
  have HSZ1 := Lib.hid (show ((w.alloc (zeroObj n)).alloc (.cells #[] 3)).heap.size = w.heap.size + 1 + 1 by simp)
  clear HO HB HSZ
  generalize (w.alloc (zeroObj n)).alloc (.cells #[] 3) = W1 at HO1 HB1 HR1 HSZ1 ⊢
  obtain ⟨g, hg⟩ : ∃ g, w.heap.size = g := ⟨_, rfl⟩
  rw [hg] at HO1 HB1 HR1 HSZ1 ⊢
  have HG := Lib.hid hg
  clear hg
  go_loopw [9, 10] (fun rv iv wr => ((∃ j r : Nat, j < n ∧ iv = .int .i64 (j : Int) ∧ r < y ∧ Hid (r = x / pw (j + 1) % y) ∧ Hid (OwnI wr (g + 1) rv (limI r)) ∧ Hid (OwnI wr g (.slice (some ⟨g, 0, none⟩) n n) (fillD n (j + 1) (digF (x / y)) (fun _ => 0)))) ∨
      (iv = .int .i64 (-1) ∧ Hid (OwnI wr (g + 1) rv (limI (x % y))) ∧ Hid (OwnI wr g (.slice (some ⟨g, 0, none⟩) n n) (listF n (digF (x / y)))))) ∧ Hid (Below g w wr) ∧ g + 1 ≤ wr.heap.size) (fun _ iv _ => (intOf iv + 1).toNat)
  case atStart =>
    refine ⟨?_, HB1, by rw [HSZ1.out]; omega⟩
    by_cases hl : 0 < n
    · exact .inl ⟨n - 1, 0, by omega, by go_num, hy0, by unfold Hid; rw [show n - 1 + 1 = n by omega, Nat.div_eq_of_lt HLT.out, Nat.zero_mod], by rw [limI_zero]; exact HR1, by rw [show n - 1 + 1 = n by omega, fillD_none]; exact HO1⟩
    · obtain rfl : n = 0 := by omega
      exact .inr ⟨rfl, by have h := HLT.out; rw [pw_zero] at h; rw [show x = 0 by omega, Nat.zero_mod, limI_zero]; exact HR1, HO1⟩
  case round =>
    obtain ⟨hc, HBk, hgs⟩ := hrel
    rcases hc with ⟨j, r, hj, rfl, hr, HR, HV, HK⟩ | ⟨rfl, HV, HK⟩
    · obtain ⟨rv, rfl⟩ : ∃ rv, rv = u9 := ⟨_, rfl⟩
      obtain ⟨b1, o1, rfl, hx1⟩ := row_limb (rowOf_below RA.out (by rw [HG.out]; exact HBk.out)) (k := j) (by rw [HN.out]; exact hj)
      have hel := dig_lt x j
      have HS := Lib.hid (fun e he => HD.out j r e HR.out he)
      obtain ⟨e, he⟩ : ∃ e, dig x j = e := ⟨_, rfl⟩
      rw [he] at hx1 hel
      have HS1 := Lib.hid (HS.out e he)
      have HT := Lib.hid (cons_lim r e hel)
      have HTn := Lib.hid (nlen_cons r e hel)
      have HTs := Lib.hid (small_lt hr hel)
      have HRn := Lib.hid (HNM.out r hr)
      obtain ⟨T, hT⟩ : ∃ T, r * 1000000000 + e = T := ⟨_, rfl⟩
      rw [hT] at HS1 HT HTn HTs
      clear he hT HS
      have hlen : ([(e : Int)] : List Int).length + (limI r).length ≤ 1099511627776 := by rw [limI_length]; have := HRn.out; simp; omega
      have hcs : g + 1 ≤ (wr.alloc (.cells #[.int .i64 (e : Int)] 3)).heap.size := by simp; omega
      go_wp2_with (at_builtin; refine append_ints rfl _ _ 22 Try.underlying22 rfl (g + 1) _ rv [(e : Int)] (limI r) rfl (OwnI.lit1 wr (g + 1) e hgs) rfl (HV.out.alloc _).row hlen hcs ?_; intro v1 w1 h1 hg1)
      have hb1 : Below (g + 1) wr w1 := ((Below.refl (g + 1) wr).alloc hgs _).grown hg1 hcs (fun k hk => ((OwnI.lit1 wr (g + 1) (e : Int) hgs).lt k hk).1)
      have O1 := Lib.hid h1
      have HB2 := Lib.hid (HBk.out.trans (hb1.mono (by omega)))
      have HK1 := Lib.hid (HK.out.other (grownBy_trans (World.grownBy_alloc wr (.cells #[.int .i64 (e : Int)] 3) _) hg1) (fun k k' e1 e2 => Nat.ne_of_lt (Nat.lt_of_lt_of_le ((show g = k by simpa [Value.ownBlock] using e1) ▸ Nat.lt_succ_self g) ((OwnI.lit1 wr (g + 1) (e : Int) hgs).lt k' e2).1)))
      have hs1 : g + 1 ≤ w1.heap.size := Nat.le_trans hgs hb1.size
      clear h1 hg1 hb1
      have O1b : Hid (OwnI w1 (g + 1) v1 (listF (nlen r + 1) (digF T))) := by unfold Hid; rw [← HT.out]; exact O1.out
      go_wp2_with fail
      refine (spec_trim v1 T (nlen r + 1) (g + 1) w1 O1b.out HTn.out).mono ?_
      rintro e w2 ⟨v2, rfl, o2, rfl⟩
      have O2 := Lib.hid o2
      have hTn : nlen T ≤ 500 := by have := HTn.out; have := HRn.out; omega
      clear o2
      go_wp2_with fail
      refine (spec_cmp _ _ T y _ O2.out.row (rowOf_below RB.out (by rw [HG.out]; exact HB2.out)) (by omega) (by rw [HM.out]; omega)).mono ?_
      rintro e w3 ⟨rfl, b3⟩
      have O3 := Lib.hid (O2.out.below b3)
      have HK3 := Lib.hid (HK1.out.below b3)
      have HB3 := Lib.hid (HB2.out.trans (b3.mono (by have := HB2.out.size; rw [HG.out] at this; exact this)))
      have hs3 : g + 1 ≤ w3.heap.size := Nat.le_trans hs1 b3.size
      clear b3
      by_cases hlt : T < y
      · have hc0 : cmpN T y < 0 := (cmpN_neg T y).2 hlt
        obtain ⟨c, hc⟩ : ∃ c, cmpN T y = c := ⟨_, rfl⟩
        rw [hc] at hc0 ⊢
        have HE : Hid (T = x / pw j % y) := by have h := HS1.out.2.1; rw [Nat.mod_eq_of_lt hlt] at h; exact h
        have HZ : Hid (digF (x / y) j = 0) := by have h := HS1.out.1; rw [Nat.div_eq_of_lt hlt] at h; unfold Hid digF; rw [← h]; rfl
        have HK4 : Hid (OwnI w3 g (.slice (some ⟨g, 0, none⟩) n n) (fillD n j (digF (x / y)) (fun _ => 0))) := by have h := HK3.out; rw [fillD_skip HZ.out] at h; exact h
        clear hc
        go_wp2
        go_roundw
        case rel =>
          refine ⟨?_, HB3, hs3⟩
          by_cases hj0 : 0 < j
          · exact .inl ⟨j - 1, T, by omega, by go_num, hlt, by unfold Hid; rw [show j - 1 + 1 = j by omega]; exact HE.out, O3, by rw [show j - 1 + 1 = j by omega]; exact HK4⟩
          · obtain rfl : j = 0 := by omega
            exact .inr ⟨by go_num, by have h := HE.out; rw [pw_zero, Nat.div_one] at h; rw [← h]; exact O3, by have h := HK4.out; rw [fillD_full] at h; exact h⟩
        case measure => simp [intOf]
      · have hc0 : 0 ≤ cmpN T y := by have := cmpN_neg T y; omega
        obtain ⟨c, hc⟩ : ∃ c, cmpN T y = c := ⟨_, rfl⟩
        rw [hc] at hc0 ⊢
        clear hc
        go_wp2_with fail
        refine (spec_digit _ _ T y _ O3.out.row (rowOf_below RB.out (by rw [HG.out]; exact HB3.out)) hy0 HTs.out (by omega) (by rw [HM.out]; omega)).mono ?_
        rintro e w4 ⟨rfl, b4⟩
        have O4 := Lib.hid (O3.out.below b4)
        have HK4 := Lib.hid (HK3.out.below b4)
        have HB4 := Lib.hid (HB3.out.trans (b4.mono (by have := HB3.out.size; rw [HG.out] at this; exact this)))
        have hs4 : g + 1 ≤ w4.heap.size := Nat.le_trans hs3 b4.size
        clear b4
        have HQ1 := Lib.hid HS1.out.1
        have hql : T / y < 1000000000 := (Nat.div_lt_iff_lt_mul hy0).2 (by rw [Nat.mul_comm]; exact HTs.out)
        have HSM := Lib.hid (sub_mod (T := T) (y := y))
        have HLE : Hid (y * (T / y) ≤ T) := Nat.mul_div_le _ _
        obtain ⟨q, hq⟩ : ∃ q, T / y = q := ⟨_, rfl⟩
        rw [hq] at HQ1 hql HSM HLE ⊢
        clear hq
        have HMq := Lib.hid (nlen_mul_small (y := y) hql)
        have hcl := HK4.out.cell j (by rw [fillD_length]; exact hj)
        have hfz := HK4.out.frozen j
        have HK5 : Hid (OwnI (w4.setCell ⟨g, j, none⟩ (.int .i64 q)) g (.slice (some ⟨g, 0, none⟩) n n) (fillD n j (digF (x / y)) (fun _ => 0))) := by
          have h := HK4.out.set j (q : Int)
          have e2 := fillD_set (n := n) (k := j) (F := digF (x / y)) (G := fun _ => 0) hj
          rw [show digF (x / y) j = (q : Int) by unfold digF; rw [HQ1.out]] at e2
          rw [e2] at h
          exact h
        have O5 := Lib.hid (O4.out.other (setCell_grown w4 g j (.int .i64 q)) (fun k k' e1 e2 => by have := (O4.out.lt k e1).1; simp at e2; omega))
        have HB5 := Lib.hid (HB4.out.setCell (p := ⟨g, j, none⟩) (Nat.le_refl _) (.int .i64 q))
        have hs5 : g + 1 ≤ (w4.setCell ⟨g, j, none⟩ (.int .i64 q)).heap.size := by simp [World.setCell]; exact hs4
        go_wp2_with fail
        generalize w4.setCell ⟨g, j, none⟩ (.int .i64 q) = W5 at HK5 O5 HB5 hs5 ⊢
        clear hcl hfz
        refine (spec_natOf_nat q _ (by omega)).mono ?_
        rintro e w6 ⟨vq, rfl, oq, b6⟩
        have OQ := Lib.hid oq.row
        have O6 := Lib.hid (O5.out.below b6)
        have HK6 := Lib.hid (HK5.out.below b6)
        have HB6 := Lib.hid (HB5.out.trans (b6.mono (by have := HB5.out.size; rw [HG.out] at this; exact this)))
        have hs6 : g + 1 ≤ w6.heap.size := Nat.le_trans hs5 b6.size
        clear oq b6
        go_wp2_with fail
        refine (spec_mulAny _ _ y q _ (rowOf_below RB.out (by rw [HG.out]; exact HB6.out)) OQ.out (by rw [HM.out]; omega) (by have : nlen q ≤ 1 := (nlen_le_iff _ _).2 (by rw [pw_one]; omega); omega)).mono ?_
        rintro e w7 ⟨vm, rfl, om, b7⟩
        have OM := Lib.hid om.row
        have O7 := Lib.hid (O6.out.below b7)
        have HK7 := Lib.hid (HK6.out.below b7)
        have HB7 := Lib.hid (HB6.out.trans (b7.mono (by have := HB6.out.size; rw [HG.out] at this; exact this)))
        have hs7 : g + 1 ≤ w7.heap.size := Nat.le_trans hs6 b7.size
        clear om b7
        go_wp2_with fail
        refine (spec_sub _ _ T (y * q) _ O7.out.row OM.out HLE.out (by omega) (by have := HMq.out; rw [HM.out] at this; omega)).mono ?_
        rintro e w8 ⟨vs, rfl, os, b8⟩
        have OS : Hid (OwnI w8 (g + 1) vs (limI (T % y))) := by rw [← HSM.out]; exact os.base hs7
        have HK8 := Lib.hid (HK7.out.below b8)
        have HB8 := Lib.hid (HB7.out.trans (b8.mono (by have := HB7.out.size; rw [HG.out] at this; exact this)))
        have hs8 : g + 1 ≤ w8.heap.size := Nat.le_trans hs7 b8.size
        have HMt := Lib.hid (HML.out T)
        clear os b8
        go_wp2
        go_roundw
        case rel =>
          refine ⟨?_, HB8, hs8⟩
          by_cases hj0 : 0 < j
          · exact .inl ⟨j - 1, T % y, by omega, by go_num, HMt.out, by unfold Hid; rw [show j - 1 + 1 = j by omega]; exact HS1.out.2.1, OS, by rw [show j - 1 + 1 = j by omega]; exact HK8⟩
          · obtain rfl : j = 0 := by omega
            exact .inr ⟨by go_num, by have h := HS1.out.2.1; rw [pw_zero, Nat.div_one] at h; rw [← h]; exact OS, by have h := HK8.out; rw [fillD_full] at h; exact h⟩
        case measure => simp [intOf]
    · have HT1 := Lib.hid (spec_trimB _ (x / y) n g wr HK.out HQ.out)
      go_wp2_with fail
      refine HT1.out.mono ?_
      rintro e w2 ⟨v', rfl, o, hob, rfl⟩
      have O := Lib.hid o
      have HOB := Lib.hid hob
      clear o hob
      go_wp2
      go_ret2
      refine ⟨_, _, rfl, by rw [HG.out]; exact O.out, by rw [HG.out]; exact HV.out.base (Nat.le_succ _), ?_, by rw [HG.out]; exact HBk.out⟩
      intro k k' e1 e2
      have h1 := HOB.out k e1
      simp [Value.ownBlock] at h1
      have h2 := (HV.out.lt k' e2).1
      omega

end Go.Proofs.Ytofmpfcbdemcnaa
