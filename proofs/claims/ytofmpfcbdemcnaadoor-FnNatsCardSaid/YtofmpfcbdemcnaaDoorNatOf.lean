/- NatOf of the program and of the model both list the limbs of an int, none where it is negative. -/
import Derived.Test.YtofmpfcbdemcnaaDoorLawTail
import Derived.Maps.AppendAt
namespace Go.Proofs.YtofmpfcbdemcnaaDoor
open Go.RowKit

/-- 'out = append(out, x)' on a row of ints of the call's own -/
theorem append_int {ops : Array Oper} {rest : List Oper} {o : Oper} {a : Act} {Q : Exit → Act → World → Prop} {w : World} (hgd : o.guard = none) (s x : Operand) (T : TypeId) (hT : Tryd.prog.underlying T = some (.slice 3))
    (ho : o.op = .call { callee := .builtin .append, args := #[s, x], argTypes := #[T, T] })
    (B : Nat) (v : Value) (l : List Int) (u : Int) (ad : Addr) (hs : a.eval s = v) (hown : OwnI w B v l) (hx : a.eval x = .slice (some ad) 1 1)
    (hc : ∀ j y, [Value.int .i64 u][j]? = some y → w.cell? (ad.add j) = some y) (hn : l.length ≤ 1099511627776) (hB : B ≤ w.heap.size)
    (h : ∀ v' w', OwnI w' B v' (l ++ [u]) → w.grownBy w' v.ownBlock → wpList Tryd.prog ops Q rest (a.put o.dst v') w') : wpList Tryd.prog ops Q (o :: rest) a w := by
  obtain ⟨i0, hi, hz0, hz1, hz2⟩ := info_parts info_int
  refine wpList_append_own w hgd s x T ho B 3 i0 (.int .i64 0) 1 8 hT hi hz0 hz1 hz2 rfl (by decide) v l.length (l.map iV) hs hown ad 1 1 [.int .i64 u] hx rfl hc (by simp [Value.oneCell']) (by unfold maxLen; omega) (by omega) hB ?_
  intro v' w' h1 h2 _
  refine h v' w' ?_ h2
  unfold OwnI
  simpa [iV] using h1

theorem OwnI.lit0 (w : World) : OwnI (w.alloc (.cells #[] 3)) w.heap.size (.slice (some ⟨w.heap.size, 0, none⟩) 0 0) [] := World.ownsRow_lit (e := 3) (size := 1) w #[] 0 (Nat.le_refl _) (by unfold maxLen; omega) (by simp)
theorem natOf_next {N k : Nat} (h : 0 < N / pw k) : k + 1 ≤ nlen N := by
  have h1 : 1 * pw k ≤ N := (Nat.le_div_iff_mul_le (pw_pos k)).1 h
  rw [Nat.one_mul] at h1
  have := nlen_le_iff k N
  omega
theorem natOf_end {N k : Nat} (hk : k ≤ nlen N) (h : N / pw k = 0) : k = nlen N := by
  have h1 : N < pw k := by
    rcases Nat.div_eq_zero_iff.1 h with h | h
    · have := pw_pos k; omega
    · exact h
  have := (nlen_le_iff k N).2 h1
  omega

set_option maxHeartbeats 400000 in
theorem impl_limbsOf_nat (N : Nat) (w : World) (hN : N ≤ 9223372036854775807) :
    Calls Tryd.prog 43 #[.int .i64 N] w fun e w' => ∃ v, e = .returned v ∧ OwnI w' w.heap.size v (limI N) ∧ Below w.heap.size w w' := by
  have HL := Lib.hid (show nlen N ≤ 3 by rw [nlen_le_iff]; simp only [pw]; omega)
  go_enter Tryd.func43, Tryd.ntmps43
  go_wp2
  go_loopw [0, 3] (fun nv ov wr => ∃ (k m : Nat), k ≤ nlen N ∧ m ≤ N ∧ nv = .int .i64 m ∧ Hid (m = N / pw k) ∧ Hid (OwnI wr w.heap.size ov (listF k (fun i => (dig N i : Int)))) ∧ Below w.heap.size w wr) (fun nv _ _ => (intOf nv).toNat)
  case atStart => exact ⟨0, N, Nat.zero_le _, Nat.le_refl _, rfl, by unfold Hid; rw [pw_zero, Nat.div_one], OwnI.nil _ _, Below.refl _ w⟩
  case round =>
    obtain ⟨k, m, hk, hm, rfl, HM, HO, hb⟩ := hrel
    obtain ⟨v, rfl⟩ : ∃ v, v = u3 := ⟨_, rfl⟩
    by_cases hp : 0 < m
    · have H1 := Lib.hid (natOf_next (N := N) (k := k) (by rw [← HM.out]; exact hp))
      have HD := Lib.hid (show ((m : Int) % 1000000000) = (dig N k : Int) by rw [HM.out]; unfold dig; simp)
      have hln : (listF k (fun i => (dig N i : Int))).length ≤ 1099511627776 := by rw [listF_length]; have := HL.out; omega
      have hc2 : ∀ o, w.heap.size ≤ (wr.alloc o).heap.size := fun o => by have := hb.size; simp; omega
      go_wp2_with (at_builtin; refine append_int rfl _ _ 53 Tryd.underlying53 rfl w.heap.size _ _ _ ⟨wr.heap.size, 0, none⟩ rfl (HO.out.alloc _) rfl (cell_one_new _ _ _) hln (hc2 _) ?_; intro v' w1 h1 hg1)
      go_roundw
      case rel => exact ⟨k + 1, m / 1000000000, H1.out, by omega, by go_num, by unfold Hid; rw [HM.out, div_pw_succ], by rw [HD.out] at h1; rw [listF_succ]; exact h1, (hb.alloc hb.size _).grown hg1 (hc2 _) fun g hg => (HO.out.lt g hg).1⟩
      case measure => simp [intOf]; omega
    · have H0 := Lib.hid (natOf_end (N := N) (k := k) hk (by rw [← HM.out]; omega))
      have HO2 : Hid (OwnI wr w.heap.size v (limI N)) := by unfold Hid limI; rw [← H0.out]; exact HO.out
      go_wp2
      go_ret
      exact ⟨_, rfl, HO2.out, hb⟩

/-- a count that is negative has no limbs -/
def natOfL (n : Int) : List Int := limI n.toNat
theorem natOfL_neg {n : Int} (h : n < 0) : natOfL n = [] := by unfold natOfL; rw [show n.toNat = 0 by omega, limI_zero]
theorem natOfL_len (n : Int) : (natOfL n).length ≤ 1000 ∨ 9223372036854775807 < n := by
  rcases Int.lt_or_le 9223372036854775807 n with h | h
  · exact .inr h
  · left
    unfold natOfL
    rw [limI_length, nlen_le_iff]
    refine Nat.lt_of_lt_of_le (?_ : _ < pw 3) (pw_mono (by omega))
    simp only [pw]; omega

theorem impl_limbsOf (n : Int) (w : World) (h : -9223372036854775808 ≤ n ∧ n ≤ 9223372036854775807) :
    Calls Tryd.prog 43 #[.int .i64 n] w fun e w' => ∃ v, e = .returned v ∧ OwnI w' w.heap.size v (natOfL n) ∧ Below w.heap.size w w' := by
  by_cases hn : n < 0
  · rw [natOfL_neg hn]
    go_enter Tryd.func43, Tryd.ntmps43
    go_wp2
    go_loop [0, 3] (fun nv ov => nv = .int .i64 n ∧ ov = .slice none 0 0) (fun _ _ => 0)
    case atStart => exact ⟨rfl, rfl⟩
    case round =>
      obtain ⟨rfl, rfl⟩ := hrel
      go_wp2
      go_ret
      exact ⟨_, rfl, OwnI.nil _ _, Below.refl _ w⟩
  · obtain ⟨m, rfl⟩ := Int.eq_ofNat_of_zero_le (show 0 ≤ n by omega)
    exact impl_limbsOf_nat m w (by omega)
theorem impl_natOf (n : Int) (w : World) (h : -9223372036854775808 ≤ n ∧ n ≤ 9223372036854775807) :
    Calls Tryd.prog 14 #[.int .i64 n] w fun e w' => ∃ v, e = .returned v ∧ OwnI w' w.heap.size v (natOfL n) ∧ Below w.heap.size w w' := by
  have H := Lib.hid (impl_limbsOf n w h)
  clear h
  go_enter Tryd.func14, Tryd.ntmps14
  go_wp2_with fail
  refine H.out.mono ?_
  rintro e w1 ⟨v, rfl, o, b⟩
  have O := Lib.hid o
  clear o
  go_wp2
  go_ret
  exact ⟨_, rfl, O.out, b⟩
theorem natOfL_len' (n : Int) (h : -9223372036854775808 ≤ n ∧ n ≤ 9223372036854775807) : (natOfL n).length ≤ 1000 := by
  rcases natOfL_len n with h1 | h1
  · exact h1
  · omega

end Go.Proofs.YtofmpfcbdemcnaaDoor
