/- What the exact laws do with vectors: their size. -/
import Derived.Test.YtojklmckjebplaaRats2
namespace Go.Proofs.Ytojklmckjebplaa
open Go.RowKit Go.WideShapes Go.ChangeShapes

def szL : List Fr → Nat
  | [] => 0
  | f :: L => f.mag.length + f.den.length + szL L
theorem szL_append : ∀ (L M : List Fr), szL (L ++ M) = szL L + szL M
  | [], M => by simp [szL]
  | f :: L, M => by simp [szL, szL_append L M]; omega
theorem szL_take {L : List Fr} {k : Nat} (hk : k < L.length) : szL (L.take (k + 1)) = szL (L.take k) + ((L[k]'hk).mag.length + (L[k]'hk).den.length) := by
  rw [List.take_succ_eq_append_getElem hk, szL_append]; simp [szL]
theorem szL_take_le (L : List Fr) (k : Nat) : szL (L.take k) ≤ szL L := by
  have h := szL_append (L.take k) (L.drop k)
  rw [List.take_append_drop] at h; omega
theorem rowR_len {w : World} {v d : Value} {zs ds : List Int} (h : RowR w v zs d ds) : ∃ a c e f, v = .slice a zs.length c ∧ d = .slice e ds.length f ∧ zs.length ≤ 2 ^ 63 - 1 ∧ ds.length ≤ 2 ^ 63 - 1 := by
  obtain ⟨⟨a, c, rfl, h1, h2, _⟩, ⟨e, f, rfl, h3, h4, _⟩⟩ := h
  unfold maxLen at h2 h4
  exact ⟨a, c, e, f, rfl, rfl, by omega, by omega⟩
set_option maxHeartbeats 1000000 in
theorem sz_ratv (v : Value) (L : List Fr) (left : Int) (w : World) (h : RatsAt w v L) (h0 : 0 ≤ left ∧ left ≤ 1048576) :
    Calls Try.prog 59 #[v, .int .i64 left] w fun e w' => e = .returned (.int .i64 (if (L.length : Int) + szL L ≤ left then left - L.length - szL L else -1)) ∧ Below w.heap.size w w' := by
  obtain ⟨a, cap, rfl, hc, hm, hr⟩ := h
  unfold maxLen at hm
  have R := Lib.hid hr
  clear hr
  obtain ⟨n, hnn⟩ : ∃ n, L.length = n := ⟨_, rfl⟩
  rw [hnn] at hc ⊢
  have HN := Lib.hid hnn
  clear hnn
  obtain ⟨r, hr⟩ : ∃ r : Int, r = if (n : Int) + szL L ≤ left then left - n - szL L else -1 := ⟨_, rfl⟩
  rw [← hr]
  have HR := Lib.hid hr
  clear hr
  by_cases hn : (n : Int) ≤ left
  · go_enter Try.func59, Try.ntmps59
    go_wp2
    have HB := Lib.hid (Below.refl w.heap.size w)
    go_loopw [1, 5] (fun lv iv wr => ∃ k : Nat, k ≤ n ∧ iv = .int .i64 k ∧ ∃ l : Int, lv = .int .i64 l ∧ Hid (l = left - n - szL (L.take k)) ∧ 0 ≤ l ∧ l ≤ 1048576 ∧ Hid (Below w.heap.size w wr)) (fun _ iv _ => n - (intOf iv).toNat)
    case atStart => exact ⟨0, Nat.zero_le _, rfl, _, rfl, by unfold Hid; simp [szL], by omega, by omega, HB⟩
    case round =>
      obtain ⟨k, hk, rfl, l, rfl, HL, hl0, hl1, HBk⟩ := hrel
      by_cases hlt : k < n
      · have hltL : k < L.length := by rw [HN.out]; exact hlt
        obtain ⟨b, o, x, y, rfl, c0, c1, c2, hrr⟩ := R.out k hltL
        have d0 := (HBk.out.cell (World.block_lt_of_cell? w _ c0)).trans c0
        have d1 := (HBk.out.cell (World.block_lt_of_cell? w _ c1)).trans c1
        have d2 := (HBk.out.cell (World.block_lt_of_cell? w _ c2)).trans c2
        obtain ⟨a1, r1, a2, r2, rfl, rfl, hz1, hz2⟩ := rowR_len hrr
        have ST := Lib.hid (szL_take hltL)
        have SL := Lib.hid (szL_take_le L (k + 1))
        clear c0 c1 c2 R hrr
        by_cases hs : ((L[k]'hltL).mag.length : Int) + (L[k]'hltL).den.length ≤ l
        · have T := Lib.hid (sz_rat_yes (L[k]'hltL).neg a1 (L[k]'hltL).mag.length r1 a2 (L[k]'hltL).den.length r2 l wr hl1 hs)
          go_wp2_with fail
          refine T.out.mono ?_
          rintro e w1 ⟨rfl, b1⟩
          go_wp2_with fail
          have hL := HL.out
          have hT := ST.out
          exact ⟨⟨k + 1, by omega, by go_num, _, rfl, Lib.hid (by omega), by omega, by omega, Lib.hid (HBk.out.trans (b1.mono HBk.out.size))⟩, by simp [intOf]; omega⟩
        · have T := Lib.hid (sz_rat_no (L[k]'hltL).neg a1 (L[k]'hltL).mag.length r1 a2 (L[k]'hltL).den.length r2 l wr ⟨hl0, hl1, hz1, hz2⟩ (by omega))
          go_wp2_with fail
          refine T.out.mono ?_
          rintro e w1 ⟨rfl, b1⟩
          go_wp2_with fail
          go_ret
          have hL := HL.out
          have hT := ST.out
          have hS := SL.out
          have h1 := HR.out
          rw [if_neg (by omega)] at h1
          exact ⟨ret_int h1.symm, HBk.out.trans (b1.mono HBk.out.size)⟩
      · obtain rfl : k = n := by omega
        go_wp2
        go_ret
        have hL := HL.out
        rw [← HN.out, List.take_length, HN.out] at hL
        have h1 := HR.out
        rw [if_pos (by omega)] at h1
        exact ⟨ret_int (by rw [hL, h1]), HBk.out⟩
  · go_enter Try.func59, Try.ntmps59
    go_wp2
    go_ret
    have h1 := HR.out
    rw [if_neg (by omega)] at h1
    exact ⟨ret_int h1.symm, Below.refl _ _⟩

end Go.Proofs.Ytojklmckjebplaa
