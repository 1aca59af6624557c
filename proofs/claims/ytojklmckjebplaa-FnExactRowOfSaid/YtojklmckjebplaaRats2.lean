/- What the exact laws do with vectors: copying one. -/
import Derived.Test.YtojklmckjebplaaRats
namespace Go.Proofs.Ytojklmckjebplaa
open Go.RowKit Go.WideShapes Go.ChangeShapes

theorem take_set {L : List Fr} {n k : Nat} (hn : L.length = n) (hk : k < n) : (L.take k ++ List.replicate (n - k) Fr.zero).set k (L[k]'(by omega)) = L.take (k + 1) ++ List.replicate (n - (k + 1)) Fr.zero := by
  subst hn
  have e : L.length - k = (L.length - (k + 1)) + 1 := by omega
  rw [e, List.replicate_succ, List.set_append_right _ _ (by simp; omega), List.length_take, Nat.min_eq_left (by omega), Nat.sub_self, List.set_cons_zero, List.take_succ_eq_append_getElem hk, List.append_assoc]
  rfl
set_option maxHeartbeats 1000000 in
theorem to_ratv (v : Value) (L : List Fr) (w : World) (h : RatsAt w v L) (hn : L.length ≤ 1048576) (hl : ∀ f ∈ L, f.mag.length ≤ 1099511627776 ∧ f.den.length ≤ 1099511627776) :
    Calls Try.prog 62 #[v] w fun e w' => ∃ v' xs, e = .returned v' ∧ OwnV w' w.heap.size v' L xs ∧ Below w.heap.size w w' := by
  have H := Lib.hid h
  obtain ⟨a, cap, rfl, hc, hm, hr⟩ := h
  unfold maxLen at hm
  have R := Lib.hid hr
  clear hr
  obtain ⟨n, hnn⟩ : ∃ n, L.length = n := ⟨_, rfl⟩
  rw [hnn] at hc hn H ⊢
  have HN := Lib.hid hnn
  replace hl : ∀ k (h : k < L.length), (L[k]'h).mag.length ≤ 1099511627776 ∧ (L[k]'h).den.length ≤ 1099511627776 := fun k h => hl _ (List.getElem_mem h)
  clear hnn
  have hmk := make_rats n (by omega)
  go_enter Try.func62, Try.ntmps62
  go_wp2
  clear hmk
  have HO := Lib.hid (zeroV_own w w.heap.size n (Nat.le_refl _) (by omega))
  have HB := Lib.hid ((Below.refl w.heap.size w).alloc (Nat.le_refl _) (zeroV n))
  generalize w.alloc (zeroV n) = W1 at HO HB ⊢
  obtain ⟨g, hg⟩ : ∃ g, w.heap.size = g := ⟨_, rfl⟩
  rw [hg] at HO HB ⊢
  have HG := Lib.hid hg
  clear hg
  go_loopw [4] (fun iv wr => ∃ k : Nat, k ≤ n ∧ iv = .int .i64 k ∧ ∃ xs, Hid (OwnV wr g (.slice (some ⟨g, 0, none⟩) n n) (L.take k ++ List.replicate (n - k) Fr.zero) xs) ∧ Hid (Below g w wr)) (fun iv _ => n - (intOf iv).toNat)
  case atStart => exact ⟨0, Nat.zero_le _, rfl, _, HO, HB⟩
  case round =>
    obtain ⟨k, hk, rfl, xs, HK, HBk⟩ := hrel
    by_cases hlt : k < n
    · have hltL : k < L.length := by rw [HN.out]; exact hlt
      obtain ⟨b, o, x, y, rfl, c0, c1, c2, hrr⟩ := R.out k hltL
      have hw : w.heap.size = g := HG.out
      have d0 := (HBk.out.cell (by rw [← hw]; exact World.block_lt_of_cell? w _ c0)).trans c0
      have d1 := (HBk.out.cell (by rw [← hw]; exact World.block_lt_of_cell? w _ c1)).trans c1
      have d2 := (HBk.out.cell (by rw [← hw]; exact World.block_lt_of_cell? w _ c2)).trans c2
      clear c0 c1 c2 R
      have hrf := hl k hltL
      have T := Lib.hid (to_ratsR (b := (L[k]'hltL).neg) x _ y _ wr (hrr.below (by rw [HG.out]; exact HBk.out)) hrf.1 hrf.2)
      clear hrr hrf
      go_wp2_with fail
      refine T.out.mono ?_
      rintro e w1 ⟨x', y', rfl, o1, b1⟩
      obtain ⟨a1, r1, a2, r2, rfl, rfl⟩ := o1.slices
      have HK1 := Lib.hid (HK.out.below b1)
      have hi1 : k < (L.take k ++ List.replicate (n - k) Fr.zero).length := by simp [HN.out]; omega
      have hi2 : k < xs.length := by rw [HK.out.len]; exact hi1
      have q0 := (HK1.out.cells k hi1 hi2).1
      have q1 := (HK1.out.cells k hi1 hi2).2.1
      have q2 := (HK1.out.cells k hi1 hi2).2.2
      have z0 := HK1.out.frozen (k * 3)
      have z1 := HK1.out.frozen (k * 3 + 1)
      have z2 := HK1.out.frozen (k * 3 + 2)
      go_wp2_with fail
      clear q0 q1 q2 z0 z1 z2 d0 d1 d2
      have hsz := HBk.out.size
      have hgl := HK.out.lt g (.inl rfl)
      refine ⟨⟨k + 1, by omega, by go_num, xs.set k (.slice a1 (L[k]'hltL).mag.length r1, .slice a2 (L[k]'hltL).den.length r2), Lib.hid ?_, Lib.hid ?_⟩, by simp [intOf]; omega⟩
      · rw [← take_set HN.out hlt]
        exact HK1.out.set3 k (L[k]'hltL) _ _ hi1 (o1.base (by omega)) (fun j hj hji a a' e1 e2 => by
            have h1 := (HK.out.lt a (.inr ⟨_, List.getElem_mem hj, e1⟩)).2
            have h2 := (o1.lt a' e2).1
            omega) (fun a e => by have h2 := (o1.lt a e).1; omega)
      · have hb := HBk.out.trans (b1.mono (by omega))
        exact ((hb.setCell (p := ⟨g, k * 3, none⟩) (Nat.le_refl _) _).setCell (p := ⟨g, k * 3 + 1, none⟩) (Nat.le_refl _) _).setCell (p := ⟨g, k * 3 + 2, none⟩) (Nat.le_refl _) _
    · have hkn : k = n := by omega
      subst hkn
      go_wp2
      go_ret
      refine ⟨_, xs, rfl, ?_, by rw [HG.out]; exact HBk.out⟩
      rw [HG.out]
      have h := HK.out
      rw [Nat.sub_self, List.replicate_zero, List.append_nil, ← HN.out, List.take_length, HN.out] at h
      exact h

set_option maxHeartbeats 1000000 in
theorem eq_ratv (v1 v2 : Value) (L : List Fr) (w : World) (h1 : RatsAt w v1 L) (h2 : RatsAt w v2 L) (hn : L.length ≤ 1048576) :
    Calls Try.prog 41 #[v1, v2] w fun e w' => e = .returned (.bool true) ∧ Below w.heap.size w w' := by
  obtain ⟨a, cap, rfl, hc, hm, hr⟩ := h1
  obtain ⟨a', cap', rfl, hc', hm', hr'⟩ := h2
  unfold maxLen at hm hm'
  have R := Lib.hid hr
  have R' := Lib.hid hr'
  clear hr hr'
  obtain ⟨n, hnn⟩ : ∃ n, L.length = n := ⟨_, rfl⟩
  rw [hnn] at hc hc' hn ⊢
  have HN := Lib.hid hnn
  clear hnn
  go_enter Try.func41, Try.ntmps41
  go_wp2
  have HB := Lib.hid (Below.refl w.heap.size w)
  go_loopw [5] (fun iv wr => ∃ k : Nat, k ≤ n ∧ iv = .int .i64 k ∧ Hid (Below w.heap.size w wr)) (fun iv _ => n - (intOf iv).toNat)
  case atStart => exact ⟨0, Nat.zero_le _, rfl, HB⟩
  case round =>
    obtain ⟨k, hk, rfl, HBk⟩ := hrel
    by_cases hlt : k < n
    · have hltL : k < L.length := by rw [HN.out]; exact hlt
      obtain ⟨b, o, x, y, rfl, c0, c1, c2, hrr⟩ := R.out k hltL
      obtain ⟨b', o', x', y', rfl, e0, e1, e2, hss⟩ := R'.out k hltL
      have d0 := (HBk.out.cell (World.block_lt_of_cell? w _ c0)).trans c0
      have d1 := (HBk.out.cell (World.block_lt_of_cell? w _ c1)).trans c1
      have d2 := (HBk.out.cell (World.block_lt_of_cell? w _ c2)).trans c2
      have f0 := (HBk.out.cell (World.block_lt_of_cell? w _ e0)).trans e0
      have f1 := (HBk.out.cell (World.block_lt_of_cell? w _ e1)).trans e1
      have f2 := (HBk.out.cell (World.block_lt_of_cell? w _ e2)).trans e2
      clear c0 c1 c2 R e0 e1 e2 R'
      have T := Lib.hid (fun (W : World) (hW : Below wr.heap.size wr W) => (eq_ratsR (b := (L[k]'hltL).neg) x y x' y' _ _ W ((hrr.below HBk.out).below hW) ((hss.below HBk.out).below hW)).mono (R' := fun e w' => e = .returned (.bool true) ∧ Below wr.heap.size wr w') (fun e w' ⟨he, hb⟩ => ⟨he, hW.trans (hb.mono hW.size)⟩))
      have HS := Lib.hid (show ∀ W : World, Below wr.heap.size wr W → (W.cell? ⟨b, o + k * 3, none⟩ = some (.bool (L[k]'hltL).neg) ∧ W.cell? ⟨b, o + k * 3 + 1, none⟩ = some (x) ∧ W.cell? ⟨b, o + k * 3 + 2, none⟩ = some (y) ∧ W.cell? ⟨b', o' + k * 3, none⟩ = some (.bool (L[k]'hltL).neg) ∧ W.cell? ⟨b', o' + k * 3 + 1, none⟩ = some (x') ∧ W.cell? ⟨b', o' + k * 3 + 2, none⟩ = some (y')) from fun W hW => ⟨(hW.cell (World.block_lt_of_cell? wr _ d0)).trans d0, (hW.cell (World.block_lt_of_cell? wr _ d1)).trans d1, (hW.cell (World.block_lt_of_cell? wr _ d2)).trans d2, (hW.cell (World.block_lt_of_cell? wr _ f0)).trans f0, (hW.cell (World.block_lt_of_cell? wr _ f1)).trans f1, (hW.cell (World.block_lt_of_cell? wr _ f2)).trans f2⟩)
      clear hrr hss
      go_wp2_with fail
      go_region_held3 (fun w' => w'.cell? ⟨b, o + k * 3, none⟩ = some (.bool (L[k]'hltL).neg) ∧ w'.cell? ⟨b, o + k * 3 + 1, none⟩ = some (x) ∧ w'.cell? ⟨b, o + k * 3 + 2, none⟩ = some (y) ∧ w'.cell? ⟨b', o' + k * 3, none⟩ = some (.bool (L[k]'hltL).neg) ∧ w'.cell? ⟨b', o' + k * 3 + 1, none⟩ = some (x') ∧ w'.cell? ⟨b', o' + k * 3 + 2, none⟩ = some (y')) (first | exact HS.out _ (by first | with_reducible exact Below.refl _ _ | with_reducible exact (Below.refl _ _).drew | with_reducible exact bb_t | fail) | fail)
        (first
          | (go_at_call 37; refine (T.out _ (by first | with_reducible exact Below.refl _ _ | with_reducible exact (Below.refl _ _).drew | with_reducible exact bb_t | fail)).mono ?_; rintro e w_t ⟨rfl, bb_t⟩))
      all_goals go_wp2_with fail
      all_goals exact ⟨⟨k + 1, by omega, by go_num, Lib.hid (HBk.out.trans (bb_t.mono HBk.out.size))⟩, by simp [intOf]; omega⟩
    · obtain rfl : k = n := by omega
      go_wp2
      go_ret
      exact ⟨rfl, HBk.out⟩

end Go.Proofs.Ytojklmckjebplaa
