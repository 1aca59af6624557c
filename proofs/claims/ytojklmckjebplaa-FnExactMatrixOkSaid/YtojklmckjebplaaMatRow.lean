/- Copies of vectors, rows of matrices, equal matrices, in the model; the contracts of what they call open. -/
import Derived.Test.YtojklmckjebplaaMatOk
import Derived.Test.YtojklmckjebplaaVecApp
namespace Go.Proofs.Ytojklmckjebplaa
open Go.RowKit Go.WideShapes Go.ChangeShapes
set_option linter.unusedVariables false
set_option linter.unusedSimpArgs false
set_option maxRecDepth 100000 in
set_option maxHeartbeats 2000000 in
theorem spec_vecCopy (Q : Fr → Prop)
    (HC : ∀ (f : Fr), Q f → ∀ v d w, RowR w v f.mag d f.den → Calls Try.prog 67 #[.agg #[.bool f.neg, v, d]] w fun r w' => ∃ x y, r = .returned (.agg #[.bool f.neg, x, y]) ∧ OwnR w' w.heap.size x f.mag y f.den ∧ Below w.heap.size w w')
    (v : Value) (L : List Fr) (w : World) (h : RatsAt w v L) (hl : L.length ≤ 100000) (HQ : ∀ k (hk : k < L.length), Q (L[k]'hk)) :
    Calls Try.prog 73 #[v] w fun e w' => ∃ u xs, e = .returned u ∧ OwnV w' w.heap.size u L xs ∧ Below w.heap.size w w' := by
  obtain ⟨a, cap, rfl, hc, hm, hr⟩ := h
  unfold maxLen at hm
  have R := Lib.hid hr
  have HQ := Lib.hid HQ
  clear hr
  obtain ⟨n, hnn⟩ : ∃ n, L.length = n := ⟨_, rfl⟩
  rw [hnn] at hc hl ⊢
  have HN := Lib.hid hnn
  clear hnn
  go_enter Try.func73, Try.ntmps73
  go_wp2_with fail
  obtain ⟨W1, hW1⟩ : ∃ x, x = w.alloc (.cells #[] 42) := ⟨_, rfl⟩
  have HO := Lib.hid (show OwnV W1 w.heap.size (.slice (some ⟨w.heap.size, 0, none⟩) 0 0) (L.take 0) [] by rw [hW1]; exact OwnV.lit0 w)
  have HB := Lib.hid (show Below w.heap.size w W1 by rw [hW1]; exact (Below.refl _ _).alloc (Nat.le_refl _) _)
  rw [← hW1]
  clear hW1
  go_loopw [3, 9] (fun ov iv wr => ∃ (k : Nat) (vo : Value), k ≤ n ∧ iv = .int .i64 k ∧ vo = ov ∧ ∃ xs, Hid (OwnV wr w.heap.size vo (L.take k) xs) ∧ Hid (Below w.heap.size w wr)) (fun _ iv _ => n - (intOf iv).toNat)
  case atStart => exact ⟨0, _, Nat.zero_le _, rfl, rfl, _, HO, HB⟩
  case round =>
    obtain ⟨k, vo, hk, rfl, rfl, xs, HK, HBk⟩ := hrel
    by_cases hlt : k < n
    · have hlt1 : k < L.length := by rw [HN.out]; exact hlt
      obtain ⟨b', o', x', y', rfl, g0, g1, g2, hss⟩ := R.out k hlt1
      have f0 := (HBk.out.cell (World.block_lt_of_cell? w _ g0)).trans g0
      have f1 := (HBk.out.cell (World.block_lt_of_cell? w _ g1)).trans g1
      have f2 := (HBk.out.cell (World.block_lt_of_cell? w _ g2)).trans g2
      have SS := Lib.hid (hss.below HBk.out)
      obtain ⟨a3, r3, a4, r4, rfl, rfl, hz3, hz4⟩ := rowR_len hss
      clear g0 g1 g2 R hss
      obtain ⟨wb, hwb⟩ : ∃ x, x = wr.alloc (.cells #[.bool (L[k]'hlt1).neg, .slice a3 (L[k]'hlt1).mag.length r3, .slice a4 (L[k]'hlt1).den.length r4] 42) := ⟨_, rfl⟩
      have bW : Below wr.heap.size wr wb := by rw [hwb]; exact (Below.refl wr.heap.size wr).alloc (Nat.le_refl _) _
      go_wp2_with fail
      rw [← hwb]
      have O9 := Lib.hid (show OwnV wb w.heap.size vo _ xs by rw [hwb]; exact HK.out.alloc _)
      have B9 := Lib.hid (show Below w.heap.size w wb by rw [hwb]; exact HBk.out.alloc HBk.out.size _)
      have L9 := Lib.hid O9.out.lt
      have BW := Lib.hid B9.out.size
      refine (HC (L[k]'hlt1) (HQ.out k hlt1) _ _ wb (SS.out.below bW)).mono ?_
      rintro e w_r ⟨x_r, y_r, rfl, o_r, bb_r⟩
      obtain ⟨a_r, c_r, e_r, f_r, rfl, rfl⟩ := o_r.slices
      have hbb := bb_r.size
      have lr := o_r.lt
      have hlen : (L.take k).length ≤ 100000 := by simp; omega
      clear hwb f0 f1 f2 HK
      go_wp2_with (at_builtin; refine append_rat rfl _ _ rfl w.heap.size vo _ xs rfl ((O9.out.below bb_r).alloc _) hlen (by have := BW.out; simp; omega) _ _ rfl (L[k]'hlt1) _ _ (World.alloc_heap_new _ _) (OwnR.base (o_r.alloc _) BW.out) (fun i hi r r' h1 h2 => by have h3 := (L9.out r (.inr ⟨_, List.getElem_mem hi, h1⟩)).2; have h4 := (lr r' h2).1; omega) (fun r h2 h1 => by have h3 := (L9.out r (.inl h1)).2; have h4 := (lr r h2).1; omega) ?_; intro v_n w_n o_n g_n l_n)
      exact ⟨⟨k + 1, v_n, by omega, by go_num, rfl, _, Lib.hid (by rw [List.take_succ_eq_append_getElem hlt1]; exact o_n), Lib.hid (((B9.out.trans (bb_r.mono B9.out.size)).alloc (Nat.le_trans BW.out bb_r.size) _).grown g_n (by have := BW.out; simp; omega) (fun q hq => (L9.out q (.inl hq)).1))⟩, by simp [intOf]; omega⟩
    · obtain rfl : k = n := by omega
      have hT1 : L.take k = L := by rw [← HN.out, List.take_length]
      rw [hT1] at HK
      go_wp2
      go_ret
      first | exact ⟨vo, xs, rfl, HK.out, HBk.out⟩ | exact ⟨vo, rfl, ⟨xs, HK.out⟩, HBk.out⟩
def eqM (q : List Fr → List Fr → Bool) (r0 c0 : Int) (L0 : List Fr) (r1 c1 : Int) (L1 : List Fr) : Bool := (r0 == r1) && ((c0 == c1) && q L0 L1)
theorem spec_eqM (q : List Fr → List Fr → Bool)
    (HQ : ∀ v0 L0 v1 L1 w, RatsAt w v0 L0 → RatsAt w v1 L1 → Calls Try.prog 80 #[v0, v1] w fun e w' => e = .returned (.bool (q L0 L1)) ∧ Below w.heap.size w w')
    (r0 c0 : Int) (v0 : Value) (L0 : List Fr) (r1 c1 : Int) (v1 : Value) (L1 : List Fr) (w : World) (h0 : RatsAt w v0 L0) (h1 : RatsAt w v1 L1) :
    Calls Try.prog 47 #[.agg #[.int .i64 r0, .int .i64 c0, v0], .agg #[.int .i64 r1, .int .i64 c1, v1]] w fun e w' => e = .returned (.bool (eqM q r0 c0 L0 r1 c1 L1)) ∧ Below w.heap.size w w' := by
  have T := Lib.hid (fun W (hW : Below w.heap.size w W) => HQ v0 L0 v1 L1 W (h0.below hW) (h1.below hW))
  obtain ⟨a, k, rfl, _, _⟩ := ratsAt_form h0
  obtain ⟨a', k', rfl, _, _⟩ := ratsAt_form h1
  obtain ⟨n, hn⟩ : ∃ n, L0.length = n := ⟨_, rfl⟩
  obtain ⟨n', hn'⟩ : ∃ n, L1.length = n := ⟨_, rfl⟩
  rw [hn] at T ⊢
  rw [hn'] at T ⊢
  clear hn hn' h0 h1
  obtain ⟨x, hx⟩ : ∃ x, x = eqM q r0 c0 L0 r1 c1 L1 := ⟨_, rfl⟩
  rw [← hx]
  have HX := Lib.hid hx
  clear hx
  have bA := ((Below.refl w.heap.size w).alloc (Nat.le_refl _) (.cells #[.int .i64 r0, .int .i64 c0, .slice a n k] 25)).alloc (by simp) (.cells #[.int .i64 r1, .int .i64 c1, .slice a' n' k'] 25)
  have BA := Lib.hid bA
  clear bA
  cases h1 : (r0 == r1) with
  | false =>
    obtain rfl : x = false := HX.out.trans (by unfold eqM; rw [h1]; rfl)
    go_enter Try.func47, Try.ntmps47
    go_wp2
    go_ret
    exact ⟨rfl, BA.out⟩
  | true =>
    obtain rfl := eq_of_beq h1
    clear h1
    cases h2 : (c0 == c1) with
    | false =>
      obtain rfl : x = false := HX.out.trans (by unfold eqM; rw [h2]; simp)
      go_enter Try.func47, Try.ntmps47
      go_wp2
      go_ret
      exact ⟨rfl, BA.out⟩
    | true =>
      obtain rfl := eq_of_beq h2
      clear h2
      obtain rfl : x = q L0 L1 := HX.out.trans (by unfold eqM; simp)
      go_enter Try.func47, Try.ntmps47
      go_wp2_with fail
      refine (T.out _ BA.out).mono ?_
      rintro e w1 ⟨rfl, b1⟩
      have B1 := Lib.hid (BA.out.trans (b1.mono BA.out.size))
      clear b1
      go_wp2
      go_ret
      exact ⟨rfl, B1.out⟩

end Go.Proofs.Ytojklmckjebplaa
