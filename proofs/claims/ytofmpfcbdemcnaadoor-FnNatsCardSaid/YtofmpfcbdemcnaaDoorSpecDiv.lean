/- Division in the model: by one limb, and by many. -/
import Derived.Test.YtofmpfcbdemcnaaDoorCmpLaw
import Derived.Test.YtofmpfcbdemcnaaDoorMulLaw
import Derived.Laws.AppendOwnNone
namespace Go.Proofs.YtofmpfcbdemcnaaDoor
open Go.RowKit Go.WideShapes Go.ChangeShapes
set_option maxRecDepth 100000

/-- two results share no block -/
def Apart (v0 v1 : Value) : Prop := ∀ g g', v0.ownBlock = some g → v1.ownBlock = some g' → g ≠ g'
theorem Apart.nil (v : Value) : Apart (.slice none 0 0) v := fun g g' h _ => by simp [Value.ownBlock] at h
theorem OwnI.lit1 (w : World) (B : Nat) (d : Int) (hB : B ≤ w.heap.size) : OwnI (w.alloc (.cells #[.int .i64 d] 3)) B (.slice (some ⟨w.heap.size, 0, none⟩) 1 1) [d] :=
  World.ownsRow_lit (base := B) (e := 3) (size := 1) w #[.int .i64 d] 1 hB (by unfold maxLen; omega) (by simp)

theorem append_none_run {w : World} (T : TypeId) (hT : Tryd.prog.underlying T = some (.slice 3)) (ty : TypeId) (B c : Nat) (v : Value) (l : List Int) (hown : OwnI w B v l) : (Builtin.append_ #[T, T] ty #[v, .slice none 0 c]).run Tryd.prog w = .ok v w := by
  obtain ⟨i0, hi, hz0, hz1, hz2⟩ := info_parts info_int
  rcases hown.2 with ⟨rfl, _⟩ | ⟨g, cap, cur, rfl, _, _, hnc, _⟩
  · simp [Builtin.append_, run_underlying hT, sizeOf, typeInfo, hi, Builtin.lenOf, Builtin.firstCells]
  · simp [Builtin.append_, run_underlying hT, sizeOf, typeInfo, hi, Builtin.lenOf, Builtin.firstCells, hnc, storeCells]
/-- 'append(s, x...)' onto a row of ints of the call's own -/
theorem append_ints {ops : Array Oper} {rest : List Oper} {o : Oper} {a : Act} {Q : Exit → Act → World → Prop} {w : World} (hgd : o.guard = none) (s x : Operand) (T : TypeId) (hT : Tryd.prog.underlying T = some (.slice 3))
    (ho : o.op = .call { callee := .builtin .append, args := #[s, x], argTypes := #[T, T] })
    (B : Nat) (v vx : Value) (l l2 : List Int) (hs : a.eval s = v) (hown : OwnI w B v l) (hx : a.eval x = vx) (hr : RowOf iV w vx l2)
    (hn : l.length + l2.length ≤ 1099511627776) (hB : B ≤ w.heap.size)
    (h : ∀ v' w', OwnI w' B v' (l ++ l2) → w.grownBy w' v.ownBlock → wpList Tryd.prog ops Q rest (a.put o.dst v') w') : wpList Tryd.prog ops Q (o :: rest) a w := by
  obtain ⟨i0, hi, hz0, hz1, hz2⟩ := info_parts info_int
  obtain ⟨ax, c, rfl, hc, hm, hcell⟩ := hr
  cases ax with
  | none =>
    have hl2 : l2 = [] := by
      cases l2 with
      | nil => rfl
      | cons y r => obtain ⟨b, o, e, _⟩ := hcell 0 (by simp); cases e
    subst hl2
    refine wpList_plain hgd fun K hK => ?_
    have hrun := append_none_run (w := w) T hT o.type B c v l hown
    unfold Oper.wp
    simp only [List.length_nil] at hx
    simp [execOp, ho, resolve, invoke, builtin, hs, hx, hrun, Result.andThen]
    exact hK _ _ (h v w (by rw [List.append_nil]; exact hown) (grownBy_refl _ _))
  | some ad =>
    refine wpList_append_own w hgd s x T ho B 3 i0 (.int .i64 0) 1 8 hT hi hz0 hz1 hz2 rfl (by decide) v l.length (l.map iV) hs hown ad l2.length c (l2.map iV) hx (by simp) ?_ (by simp [Value.oneCell', iV]) (by unfold maxLen; omega) (by omega) hB ?_
    · intro j u hj
      obtain ⟨hjl, hje⟩ := List.getElem?_eq_some_iff.1 hj
      have hjl2 : j < l2.length := by simpa using hjl
      obtain ⟨b, o', e, hx'⟩ := hcell j hjl2
      injection e with e
      subst e
      rw [add_plain, hx', ← hje]
      simp
    · intro v' w' h1 h2 _
      refine h v' w' ?_ h2
      unfold OwnI
      simpa using h1

set_option maxHeartbeats 400000 in
theorem spec_trimB (v : Value) (T n B : Nat) (w : World) (h : OwnI w B v (listF n (digF T))) (hT : nlen T ≤ n) :
    Calls Tryd.prog 34 #[v] w fun e w' => ∃ v', e = .returned v' ∧ OwnI w B v' (limI T) ∧ (∀ k, v'.ownBlock = some k → v.ownBlock = some k) ∧ w' = w := by
  rcases h.form with ⟨rfl, hl⟩ | ⟨g, c, hv, hB, hg⟩
  · have hn : n = 0 := by have := congrArg List.length hl; rw [listF_length] at this; simpa using this
    have hT0 : limI T = [] := by
      have : nlen T = 0 := by omega
      unfold limI; rw [this]; rfl
    have HT := Lib.hid hT0
    clear hT0 hl hT h hn
    go_enter Tryd.func34, Tryd.ntmps34
    go_wp2
    go_loop [3] (fun sv => sv = .int .i64 0) (fun _ => 0)
    case atStart => rfl
    case round =>
      subst hrel
      go_wp2
      go_ret
      exact ⟨_, rfl, by rw [HT.out]; exact OwnI.nil _ _, fun k h => h, rfl⟩
  · rw [listF_length] at hv
    subst hv
    have hcm := h.cap_le
    unfold maxLen at hcm
    have H := Lib.hid h
    clear h hg
    go_enter Tryd.func34, Tryd.ntmps34
    go_wp2
    go_loop [3] (fun sv => ∃ k : Nat, k ≤ n ∧ nlen T ≤ k ∧ sv = .int .i64 k) (fun sv => (intOf sv).toNat)
    case atStart => exact ⟨n, Nat.le_refl _, hT, rfl⟩
    case round =>
      obtain ⟨k, hk, hTk, rfl⟩ := hrel
      by_cases hp : 0 < k
      · have hcl := H.out.cell (k - 1) (by rw [listF_length]; omega)
        rw [listF_get] at hcl
        unfold digF at hcl
        have e1 : ((k : Int) - 1).toNat = k - 1 := by omega
        have HM := Lib.hid (trim_more hTk hp)
        have HD := Lib.hid (trim_done hTk hp)
        obtain ⟨d, hd⟩ : ∃ d, dig T (k - 1) = d := ⟨_, rfl⟩
        rw [hd] at hcl HM HD
        clear hd
        by_cases h0 : d = 0
        · have HM2 := Lib.hid (HM.out h0)
          subst h0
          go_wp2
          go_round
          case rel => exact ⟨k - 1, by omega, HM2.out, by go_num⟩
          case measure => simp [intOf]; omega
        · have HD2 := Lib.hid (HD.out h0)
          have hb : ((d : Int) == 0) = false := by simp; exact h0
          clear h0
          go_wp2
          go_ret
          refine ⟨_, rfl, ?_, fun k h => h, rfl⟩
          have := H.out.take hk
          rw [HD2.out, limI_take (by have := HD2.out; omega)] at this
          have e := HD2.out
          rw [← e] at this
          exact this
      · obtain rfl : k = 0 := by omega
        have HT : Hid (limI T = []) := by
          unfold Hid
          have : nlen T = 0 := by omega
          unfold limI; rw [this]; rfl
        go_wp2
        go_ret
        refine ⟨_, rfl, ?_, fun k h => h, rfl⟩
        have := H.out.take (Nat.zero_le _)
        rw [List.take_zero] at this
        rw [HT.out]
        exact this

/-! by one limb -/
theorem div_step2 {x n j r d : Nat} (hd : 0 < d) (hr : r = x / pw (j + 1) % d) {e : Nat} (he : dig x j = e) : ((r * 1000000000 + e) / d = dig (x / d) j) ∧ ((r * 1000000000 + e) % d = x / pw j % d) ∧ (n = n) := by
  rw [hr, ← he]
  exact ⟨(div_digit x d j hd).1, (div_digit x d j hd).2, rfl⟩
theorem nlen_div {x d : Nat} : nlen (x / d) ≤ nlen x := nlen_mono (Nat.div_le_self _ _)

/-! one digit by halving -/
theorem cmp_le {y q R : Nat} (hy : 0 < y) : cmpN (y * q) R ≤ 0 ↔ q ≤ R / y := by
  rw [Nat.le_div_iff_mul_le hy, Nat.mul_comm q y]
  unfold cmpN
  split <;> (try split) <;> omega
theorem nlen_mul_small {y q : Nat} (hq : q < 1000000000) : nlen (y * q) ≤ nlen y + 1 := by
  rw [nlen_le_iff, pw_succ]
  exact Nat.mul_lt_mul'' (lt_pw_nlen y) hq
/-! by many limbs -/
theorem cons_lim (r d : Nat) (hd : d < 1000000000) : (d : Int) :: limI r = listF (nlen r + 1) (digF (r * 1000000000 + d)) := by
  apply List.ext_getElem (by simp [limI_length, listF_length])
  intro i h1 h2
  rw [listF_get]
  cases i with
  | zero =>
    rw [List.getElem_cons_zero]
    unfold digF dig
    rw [pw_zero, Nat.div_one]
    omega
  | succ i =>
    rw [List.getElem_cons_succ, limI_get]
    unfold digF dig
    rw [show i + 1 = 1 + i by omega, pw_add, ← Nat.div_div_eq_div_mul, pw_one]
    congr 3
    omega
theorem nlen_cons (r d : Nat) (hd : d < 1000000000) : nlen (r * 1000000000 + d) ≤ nlen r + 1 := by
  rw [nlen_le_iff, pw_succ]
  have := lt_pw_nlen r
  omega
theorem fillD_skip {n k : Nat} {F G : Nat → Int} (h : F k = G k) : fillD n (k + 1) F G = fillD n k F G := by
  refine List.map_congr_left (fun i _ => ?_)
  by_cases e : i = k
  · subst e; rw [if_neg (by omega), if_pos (by omega), h]
  · by_cases h1 : k + 1 ≤ i
    · rw [if_pos h1, if_pos (by omega)]
    · rw [if_neg h1, if_neg (by omega)]
theorem small_lt {r y d : Nat} (hr : r < y) (hd : d < 1000000000) : r * 1000000000 + d < y * 1000000000 := by
  have : (r + 1) * 1000000000 ≤ y * 1000000000 := Nat.mul_le_mul_right _ hr
  omega
theorem sub_mod {T y : Nat} : T - y * (T / y) = T % y := by
  have := Nat.div_add_mod T y; omega

end Go.Proofs.YtofmpfcbdemcnaaDoor
