/- Vecx VecZero. -/
import Derived.Test.YtlepgkkpopjgoaaGreatXRats
import Derived.Deep.AppendLies
import Derived.Deep.CutBlock
import Derived.Deep.CutRange
import Derived.Deep.RegionHeld3
namespace Go.Proofs.YtlepgkkpopjgoaaGreat
set_option maxRecDepth 100000
set_option linter.unusedVariables false
set_option linter.unusedSimpArgs false
open Go.RowKit Go.WideShapes Go.ChangeShapes
theorem take_set {L : List Fr} {n k : Nat} (hn : L.length = n) (hk : k < n) : (L.take k ++ List.replicate (n - k) Fr.zero).set k (L[k]'(by omega)) = L.take (k + 1) ++ List.replicate (n - (k + 1)) Fr.zero := by
 subst hn
 have e : L.length - k = (L.length - (k + 1)) + 1 := by omega
 rw [e, List.replicate_succ, List.set_append_right _ _ (by simp; omega), List.length_take, Nat.min_eq_left (by omega), Nat.sub_self, List.set_cons_zero, List.take_succ_eq_append_getElem hk, List.append_assoc]
 rfl
set_option maxHeartbeats 1000000 in
theorem to_ratv (v : Value) (L : List Fr) (w : World) (h : RatsAt w v L) (hn : L.length ≤ 1048576) (hl : ∀ f ∈ L, f.mag.length ≤ 1099511627776 ∧ f.den.length ≤ 1099511627776) :
  Calls Tryz.prog 44 #[v] w fun e w' => ∃ v' xs, e = .returned v' ∧ OwnV w' w.heap.size v' L xs ∧ Below w.heap.size w w' := by
 have H := Lib.hid h
 obtain ⟨a, cap, rfl, hc, hm, hr⟩ := h
 unfold maxLen at hm
 have R := Lib.hid hr
 clear hr
 obtain ⟨n, hnn⟩ : ∃ n, L.length = n := ⟨_, rfl⟩
 rw [hnn] at hc hn H ⊢
 have HN := Lib.hid hnn
 replace hl : ∀ k (h : k < L.length), (L[k]'h).mag.length ≤ 1099511627776 ∧ (L[k]'h).den.length ≤ 1099511627776 := fun k h => hl _ (List.getElem_mem h)
 clear hnn
 have hmk := make_rats n (by omega)
 go_enter Tryz.func44, Tryz.ntmps44
 go_wp2
 clear hmk
 have HO := Lib.hid (zeroV_own w w.heap.size n (Nat.le_refl _) (by omega))
 have HB := Lib.hid ((Below.refl w.heap.size w).alloc (Nat.le_refl _) (zeroV n))
 generalize w.alloc (zeroV n) = W1 at HO HB ⊢
 obtain ⟨g, hg⟩ : ∃ g, w.heap.size = g := ⟨_, rfl⟩
 rw [hg] at HO HB ⊢
 have HG := Lib.hid hg
 clear hg
 go_loopw [4] (fun iv wr => ∃ k : Nat, k ≤ n ∧ iv = .int .i64 k ∧ ∃ xs, Hid (OwnV wr g (.slice (some ⟨g, 0, none⟩) n n) (L.take k ++ List.replicate (n - k) Fr.zero) xs) ∧ Hid (Below g w wr)) (fun iv _ => n - (intOf iv).toNat)
 case atStart => exact ⟨0, Nat.zero_le _, rfl, _, HO, HB⟩
 case round =>
  obtain ⟨k, hk, rfl, xs, HK, HBk⟩ := hrel
  by_cases hlt : k < n
  ·have hltL : k < L.length := by rw [HN.out]; exact hlt
   obtain ⟨b, o, x, y, rfl, c0, c1, c2, hrr⟩ := R.out k hltL
   have hw : w.heap.size = g := HG.out
   have d0 := (HBk.out.cell (by rw [← hw]; exact World.block_lt_of_cell? w _ c0)).trans c0
   have d1 := (HBk.out.cell (by rw [← hw]; exact World.block_lt_of_cell? w _ c1)).trans c1
   have d2 := (HBk.out.cell (by rw [← hw]; exact World.block_lt_of_cell? w _ c2)).trans c2
   clear c0 c1 c2 R
   have hrf := hl k hltL
   have T := Lib.hid (to_ratsR (b := (L[k]'hltL).neg) x _ y _ wr (hrr.below (by rw [HG.out]; exact HBk.out)) hrf.1 hrf.2)
   clear hrr hrf
   go_wp2_with fail
   refine T.out.mono ?_
   rintro e w1 ⟨x', y', rfl, o1, b1⟩
   obtain ⟨a1, r1, a2, r2, rfl, rfl⟩ := o1.slices
   have HK1 := Lib.hid (HK.out.below b1)
   have hi1 : k < (L.take k ++ List.replicate (n - k) Fr.zero).length := by simp [HN.out]; omega
   have hi2 : k < xs.length := by rw [HK.out.len]; exact hi1
   have q0 := (HK1.out.cells k hi1 hi2).1
   have q1 := (HK1.out.cells k hi1 hi2).2.1
   have q2 := (HK1.out.cells k hi1 hi2).2.2
   have z0 := HK1.out.frozen (k * 3)
   have z1 := HK1.out.frozen (k * 3 + 1)
   have z2 := HK1.out.frozen (k * 3 + 2)
   go_wp2_with fail
   clear q0 q1 q2 z0 z1 z2 d0 d1 d2
   have hsz := HBk.out.size
   have hgl := HK.out.lt g (.inl rfl)
   refine ⟨⟨k + 1, by omega, by go_num, xs.set k (.slice a1 (L[k]'hltL).mag.length r1, .slice a2 (L[k]'hltL).den.length r2), Lib.hid ?_, Lib.hid ?_⟩, by simp [intOf]; omega⟩
   ·rw [← take_set HN.out hlt]
    exact HK1.out.set3 k (L[k]'hltL) _ _ hi1 (o1.base (by omega)) (fun j hj hji a a' e1 e2 => by
      have h1 := (HK.out.lt a (.inr ⟨_, List.getElem_mem hj, e1⟩)).2
      have h2 := (o1.lt a' e2).1
      omega) (fun a e => by have h2 := (o1.lt a e).1; omega)
   ·have hb := HBk.out.trans (b1.mono (by omega))
    exact ((hb.setCell (p := ⟨g, k * 3, none⟩) (Nat.le_refl _) _).setCell (p := ⟨g, k * 3 + 1, none⟩) (Nat.le_refl _) _).setCell (p := ⟨g, k * 3 + 2, none⟩) (Nat.le_refl _) _
  ·have hkn : k = n := by omega
   subst hkn
   go_wp2
   go_ret
   refine ⟨_, xs, rfl, ?_, by rw [HG.out]; exact HBk.out⟩
   rw [HG.out]
   have h := HK.out
   rw [Nat.sub_self, List.replicate_zero, List.append_nil, ← HN.out, List.take_length, HN.out] at h
   exact h
set_option maxHeartbeats 1000000 in
theorem eq_ratv (v1 v2 : Value) (L : List Fr) (w : World) (h1 : RatsAt w v1 L) (h2 : RatsAt w v2 L) (hn : L.length ≤ 1048576) :
  Calls Tryz.prog 45 #[v1, v2] w fun e w' => e = .returned (.bool true) ∧ Below w.heap.size w w' := by
 obtain ⟨a, cap, rfl, hc, hm, hr⟩ := h1
 obtain ⟨a', cap', rfl, hc', hm', hr'⟩ := h2
 unfold maxLen at hm hm'
 have R := Lib.hid hr
 have R' := Lib.hid hr'
 clear hr hr'
 obtain ⟨n, hnn⟩ : ∃ n, L.length = n := ⟨_, rfl⟩
 rw [hnn] at hc hc' hn ⊢
 have HN := Lib.hid hnn
 clear hnn
 go_enter Tryz.func45, Tryz.ntmps45
 go_wp2
 have HB := Lib.hid (Below.refl w.heap.size w)
 go_loopw [5] (fun iv wr => ∃ k : Nat, k ≤ n ∧ iv = .int .i64 k ∧ Hid (Below w.heap.size w wr)) (fun iv _ => n - (intOf iv).toNat)
 case atStart => exact ⟨0, Nat.zero_le _, rfl, HB⟩
 case round =>
  obtain ⟨k, hk, rfl, HBk⟩ := hrel
  by_cases hlt : k < n
  ·have hltL : k < L.length := by rw [HN.out]; exact hlt
   obtain ⟨b, o, x, y, rfl, c0, c1, c2, hrr⟩ := R.out k hltL
   obtain ⟨b', o', x', y', rfl, e0, e1, e2, hss⟩ := R'.out k hltL
   have d0 := (HBk.out.cell (World.block_lt_of_cell? w _ c0)).trans c0
   have d1 := (HBk.out.cell (World.block_lt_of_cell? w _ c1)).trans c1
   have d2 := (HBk.out.cell (World.block_lt_of_cell? w _ c2)).trans c2
   have f0 := (HBk.out.cell (World.block_lt_of_cell? w _ e0)).trans e0
   have f1 := (HBk.out.cell (World.block_lt_of_cell? w _ e1)).trans e1
   have f2 := (HBk.out.cell (World.block_lt_of_cell? w _ e2)).trans e2
   clear c0 c1 c2 R e0 e1 e2 R'
   have T := Lib.hid (fun (W : World) (hW : Below wr.heap.size wr W) => (eq_ratsR (b := (L[k]'hltL).neg) x y x' y' _ _ W ((hrr.below HBk.out).below hW) ((hss.below HBk.out).below hW)).mono (R' := fun e w' => e = .returned (.bool true) ∧ Below wr.heap.size wr w') (fun e w' ⟨he, hb⟩ => ⟨he, hW.trans (hb.mono hW.size)⟩))
   have HS := Lib.hid (show ∀ W : World, Below wr.heap.size wr W → (W.cell? ⟨b, o + k * 3, none⟩ = some (.bool (L[k]'hltL).neg) ∧ W.cell? ⟨b, o + k * 3 + 1, none⟩ = some (x) ∧ W.cell? ⟨b, o + k * 3 + 2, none⟩ = some (y) ∧ W.cell? ⟨b', o' + k * 3, none⟩ = some (.bool (L[k]'hltL).neg) ∧ W.cell? ⟨b', o' + k * 3 + 1, none⟩ = some (x') ∧ W.cell? ⟨b', o' + k * 3 + 2, none⟩ = some (y')) from fun W hW => ⟨(hW.cell (World.block_lt_of_cell? wr _ d0)).trans d0, (hW.cell (World.block_lt_of_cell? wr _ d1)).trans d1, (hW.cell (World.block_lt_of_cell? wr _ d2)).trans d2, (hW.cell (World.block_lt_of_cell? wr _ f0)).trans f0, (hW.cell (World.block_lt_of_cell? wr _ f1)).trans f1, (hW.cell (World.block_lt_of_cell? wr _ f2)).trans f2⟩)
   clear hrr hss
   go_wp2_with fail
   go_region_held3 (fun w' => w'.cell? ⟨b, o + k * 3, none⟩ = some (.bool (L[k]'hltL).neg) ∧ w'.cell? ⟨b, o + k * 3 + 1, none⟩ = some (x) ∧ w'.cell? ⟨b, o + k * 3 + 2, none⟩ = some (y) ∧ w'.cell? ⟨b', o' + k * 3, none⟩ = some (.bool (L[k]'hltL).neg) ∧ w'.cell? ⟨b', o' + k * 3 + 1, none⟩ = some (x') ∧ w'.cell? ⟨b', o' + k * 3 + 2, none⟩ = some (y')) (first | exact HS.out _ (by first | with_reducible exact Below.refl _ _ | with_reducible exact (Below.refl _ _).drew | with_reducible exact bb_t | fail) | fail)
    (first
     | (go_at_call 38; refine (T.out _ (by first | with_reducible exact Below.refl _ _ | with_reducible exact (Below.refl _ _).drew | with_reducible exact bb_t | fail)).mono ?_; rintro e w_t ⟨rfl, bb_t⟩))
   all_goals go_wp2_with fail
   all_goals exact ⟨⟨k + 1, by omega, by go_num, Lib.hid (HBk.out.trans (bb_t.mono HBk.out.size))⟩, by simp [intOf]; omega⟩
  ·obtain rfl : k = n := by omega
   go_wp2
   go_ret
   exact ⟨rfl, HBk.out⟩
end Go.Proofs.YtlepgkkpopjgoaaGreat
namespace Go.Proofs.YtlepgkkpopjgoaaGreat
set_option maxRecDepth 100000
set_option linter.unusedVariables false
set_option linter.unusedSimpArgs false
open Go.RowKit Go.WideShapes Go.ChangeShapes
def szL : List Fr → Nat
 | [] => 0
 | f :: L => f.mag.length + f.den.length + szL L
theorem szL_append : ∀ (L M : List Fr), szL (L ++ M) = szL L + szL M
 | [], M => by simp [szL]
 | f :: L, M => by simp [szL, szL_append L M]; omega
theorem szL_take {L : List Fr} {k : Nat} (hk : k < L.length) : szL (L.take (k + 1)) = szL (L.take k) + ((L[k]'hk).mag.length + (L[k]'hk).den.length) := by
 rw [List.take_succ_eq_append_getElem hk, szL_append]; simp [szL]
theorem szL_take_le (L : List Fr) (k : Nat) : szL (L.take k) ≤ szL L := by
 have h := szL_append (L.take k) (L.drop k)
 rw [List.take_append_drop] at h; omega
theorem rowR_len {w : World} {v d : Value} {zs ds : List Int} (h : RowR w v zs d ds) : ∃ a c e f, v = .slice a zs.length c ∧ d = .slice e ds.length f ∧ zs.length ≤ 2 ^ 63 - 1 ∧ ds.length ≤ 2 ^ 63 - 1 := by
 obtain ⟨⟨a, c, rfl, h1, h2, _⟩, ⟨e, f, rfl, h3, h4, _⟩⟩ := h
 unfold maxLen at h2 h4
 exact ⟨a, c, e, f, rfl, rfl, by omega, by omega⟩
set_option maxHeartbeats 1000000 in
theorem sz_ratv (v : Value) (L : List Fr) (left : Int) (w : World) (h : RatsAt w v L) (h0 : 0 ≤ left ∧ left ≤ 1048576) :
  Calls Tryz.prog 42 #[v, .int .i64 left] w fun e w' => e = .returned (.int .i64 (if (L.length : Int) + szL L ≤ left then left - L.length - szL L else -1)) ∧ Below w.heap.size w w' := by
 obtain ⟨a, cap, rfl, hc, hm, hr⟩ := h
 unfold maxLen at hm
 have R := Lib.hid hr
 clear hr
 obtain ⟨n, hnn⟩ : ∃ n, L.length = n := ⟨_, rfl⟩
 rw [hnn] at hc ⊢
 have HN := Lib.hid hnn
 clear hnn
 obtain ⟨r, hr⟩ : ∃ r : Int, r = if (n : Int) + szL L ≤ left then left - n - szL L else -1 := ⟨_, rfl⟩
 rw [← hr]
 have HR := Lib.hid hr
 clear hr
 by_cases hn : (n : Int) ≤ left
 ·go_enter Tryz.func42, Tryz.ntmps42
  go_wp2
  have HB := Lib.hid (Below.refl w.heap.size w)
  go_loopw [1, 5] (fun lv iv wr => ∃ k : Nat, k ≤ n ∧ iv = .int .i64 k ∧ ∃ l : Int, lv = .int .i64 l ∧ Hid (l = left - n - szL (L.take k)) ∧ 0 ≤ l ∧ l ≤ 1048576 ∧ Hid (Below w.heap.size w wr)) (fun _ iv _ => n - (intOf iv).toNat)
  case atStart => exact ⟨0, Nat.zero_le _, rfl, _, rfl, by unfold Hid; simp [szL], by omega, by omega, HB⟩
  case round =>
   obtain ⟨k, hk, rfl, l, rfl, HL, hl0, hl1, HBk⟩ := hrel
   by_cases hlt : k < n
   ·have hltL : k < L.length := by rw [HN.out]; exact hlt
    obtain ⟨b, o, x, y, rfl, c0, c1, c2, hrr⟩ := R.out k hltL
    have d0 := (HBk.out.cell (World.block_lt_of_cell? w _ c0)).trans c0
    have d1 := (HBk.out.cell (World.block_lt_of_cell? w _ c1)).trans c1
    have d2 := (HBk.out.cell (World.block_lt_of_cell? w _ c2)).trans c2
    obtain ⟨a1, r1, a2, r2, rfl, rfl, hz1, hz2⟩ := rowR_len hrr
    have ST := Lib.hid (szL_take hltL)
    have SL := Lib.hid (szL_take_le L (k + 1))
    clear c0 c1 c2 R hrr
    by_cases hs : ((L[k]'hltL).mag.length : Int) + (L[k]'hltL).den.length ≤ l
    ·have T := Lib.hid (sz_rat_yes (L[k]'hltL).neg a1 (L[k]'hltL).mag.length r1 a2 (L[k]'hltL).den.length r2 l wr hl1 hs)
     go_wp2_with fail
     refine T.out.mono ?_
     rintro e w1 ⟨rfl, b1⟩
     go_wp2_with fail
     have hL := HL.out
     have hT := ST.out
     exact ⟨⟨k + 1, by omega, by go_num, _, rfl, Lib.hid (by omega), by omega, by omega, Lib.hid (HBk.out.trans (b1.mono HBk.out.size))⟩, by simp [intOf]; omega⟩
    ·have T := Lib.hid (sz_rat_no (L[k]'hltL).neg a1 (L[k]'hltL).mag.length r1 a2 (L[k]'hltL).den.length r2 l wr ⟨hl0, hl1, hz1, hz2⟩ (by omega))
     go_wp2_with fail
     refine T.out.mono ?_
     rintro e w1 ⟨rfl, b1⟩
     go_wp2_with fail
     go_ret
     have hL := HL.out
     have hT := ST.out
     have hS := SL.out
     have h1 := HR.out
     rw [if_neg (by omega)] at h1
     exact ⟨ret_int h1.symm, HBk.out.trans (b1.mono HBk.out.size)⟩
   ·obtain rfl : k = n := by omega
    go_wp2
    go_ret
    have hL := HL.out
    rw [← HN.out, List.take_length, HN.out] at hL
    have h1 := HR.out
    rw [if_pos (by omega)] at h1
    exact ⟨ret_int (by rw [hL, h1]), HBk.out⟩
 ·go_enter Tryz.func42, Tryz.ntmps42
  go_wp2
  go_ret
  have h1 := HR.out
  rw [if_neg (by omega)] at h1
  exact ⟨ret_int h1.symm, Below.refl _ _⟩
end Go.Proofs.YtlepgkkpopjgoaaGreat
namespace Go.Proofs.YtlepgkkpopjgoaaGreat
set_option maxRecDepth 100000
set_option linter.unusedVariables false
set_option linter.unusedSimpArgs false
open Go.RowKit Go.WideShapes Go.ChangeShapes
def cntL (L : List Fr) : Nat := L.length + szL L
theorem cntL_append (L M : List Fr) : cntL (L ++ M) = cntL L + cntL M := by simp [cntL, szL_append]; omega
theorem cntL_take {L : List Fr} {k : Nat} (hk : k < L.length) : cntL (L.take (k + 1)) = cntL (L.take k) + (1 + (L[k]'hk).mag.length + (L[k]'hk).den.length) := by
 rw [List.take_succ_eq_append_getElem hk, cntL_append]; simp [cntL, szL]; omega
theorem cntL_take_le (L : List Fr) (k : Nat) : cntL (L.take k) ≤ cntL L := by
 have h := cntL_append (L.take k) (L.drop k)
 rw [List.take_append_drop] at h; omega
def markF (m : Nat) (f : Fr) : Fr := ⟨((m : Int) % 3 == 0), marksI (m + 1) f.mag.length, marksI (m + 1 + f.mag.length) f.den.length⟩
def markV : Nat → List Fr → List Fr
 | _, [] => []
 | m, f :: L => markF m f :: markV (m + (1 + f.mag.length + f.den.length)) L
theorem markV_length : ∀ (m : Nat) (L : List Fr), (markV m L).length = L.length
 | _, [] => rfl
 | m, f :: L => by simp [markV, markV_length _ L]
theorem markV_append : ∀ (m : Nat) (L M : List Fr), markV m (L ++ M) = markV m L ++ markV (m + cntL L) M
 | m, [], M => by simp [markV, cntL, szL]
 | m, f :: L, M => by
  simp only [List.cons_append, markV, markV_append _ L M]
  congr 3
  simp [cntL, szL]; omega
theorem markV_at {m : Nat} {L : List Fr} {k : Nat} (hk : k < L.length) : (markV m L)[k]'(by rw [markV_length]; exact hk) = markF (m + cntL (L.take k)) (L[k]'hk) := by
 have h1 : markV m L = markV m (L.take k) ++ markV (m + cntL (L.take k)) (L.drop k) := by rw [← markV_append, List.take_append_drop]
 have h2 : L.drop k = (L[k]'hk) :: L.drop (k + 1) := List.drop_eq_getElem_cons hk
 have h3 : (markV m L)[k]? = some (markF (m + cntL (L.take k)) (L[k]'hk)) := by
  rw [h1, List.getElem?_append_right (by rw [markV_length]; simp; omega), markV_length, List.length_take, Nat.min_eq_left (by omega), Nat.sub_self, h2]
  rfl
 exact (List.getElem_eq_iff _).2 h3
def markedV (m k : Nat) (L : List Fr) : List Fr := markV m (L.take k) ++ L.drop k
theorem markedV_length (m k : Nat) (L : List Fr) : (markedV m k L).length = L.length := by simp [markedV, markV_length]; omega
theorem markedV_zero (m : Nat) (L : List Fr) : markedV m 0 L = L := by simp [markedV, markV]
theorem markedV_full (m : Nat) (L : List Fr) : markedV m L.length L = markV m L := by simp [markedV]
theorem markedV_at {m k : Nat} {L : List Fr} (hk : k < L.length) : (markedV m k L)[k]'(by rw [markedV_length]; exact hk) = L[k]'hk := by
 have h : (markedV m k L)[k]? = some (L[k]'hk) := by
  rw [markedV, List.getElem?_append_right (by rw [markV_length]; simp; omega), markV_length, List.length_take, Nat.min_eq_left (by omega), Nat.sub_self, List.drop_eq_getElem_cons hk]
  rfl
 exact (List.getElem_eq_iff _).2 h
theorem markedV_set {m k : Nat} {L : List Fr} (hk : k < L.length) : (markedV m k L).set k (markF (m + cntL (L.take k)) (L[k]'hk)) = markedV m (k + 1) L := by
 rw [markedV, markedV, List.set_append_right _ _ (by rw [markV_length]; simp; omega), markV_length, List.length_take, Nat.min_eq_left (by omega), Nat.sub_self, List.drop_eq_getElem_cons hk, List.set_cons_zero,
  List.take_succ_eq_append_getElem hk, markV_append, List.append_assoc]
 rfl
theorem OwnV.mark {w w2 w3 : World} {B g n c : Nat} {L : List Fr} {xs : List (Value × Value)} (h : OwnV w B (.slice (some ⟨g, 0, none⟩) n c) L xs) (i : Nat) (hi : i < L.length) (hi' : i < xs.length) (b : Bool) {z d : List Int}
  (h2 : OwnI w2 B (xs[i]'hi').1 z) (g2 : (w.setCell ⟨g, i * 3, none⟩ (.bool b)).grownBy w2 (xs[i]'hi').1.ownBlock) (h3 : OwnI w3 B (xs[i]'hi').2 d) (g3 : w2.grownBy w3 (xs[i]'hi').2.ownBlock) :
  OwnV w3 B (.slice (some ⟨g, 0, none⟩) n c) (L.set i ⟨b, z, d⟩) xs ∧ Kept (OnV (.slice (some ⟨g, 0, none⟩) n c) xs) w w3 := by
 have hap := (h.each i hi hi').2.2
 have o1 := h.set0 i b hi
 have k2 : Kept (fun k => (xs[i]'hi').1.ownBlock = some k ∨ (xs[i]'hi').2.ownBlock = some k) (w.setCell ⟨g, i * 3, none⟩ (.bool b)) w2 := (Kept.of_grown g2).mono (fun k e => .inl e)
 have k3 : Kept (fun k => (xs[i]'hi').1.ownBlock = some k ∨ (xs[i]'hi').2.ownBlock = some k) w2 w3 := (Kept.of_grown g3).mono (fun k e => .inr e)
 have hr : OwnR w3 B (xs[i]'hi').1 z (xs[i]'hi').2 d := ⟨h2.kept (Kept.of_grown g3) (fun a e e' => hap a a e e' rfl), h3, hap⟩
 have o3 := o1.rerow i (by simpa using hi) hi' (k2.trans k3) hr
 refine ⟨?_, ?_⟩
 ·simpa using o3
 ·refine ((kept_set w g (i * 3) (.bool b)).mono (fun k e => .inl (by rw [e]; rfl))).trans ((k2.trans k3).mono (fun k e => .inr ⟨_, List.getElem_mem hi', e⟩))
set_option maxHeartbeats 1000000 in
theorem mark_ratv (v : Value) (m : Nat) (mi : Int) (L : List Fr) (xs : List (Value × Value)) (B : Nat) (w : World) (hmi : mi = m) (h : OwnV w B v L xs) (hm : m + cntL L ≤ 9223372036854775807) (hn : L.length ≤ 1099511627776) :
  Calls Tryz.prog 46 #[v, .int .i64 mi] w fun e w' => e = .returned (.int .i64 ((m : Int) + cntL L)) ∧ OwnV w' B v (markV m L) xs ∧ Kept (OnV v xs) w w' := by
 subst hmi
 obtain ⟨n, hnn⟩ : ∃ n, L.length = n := ⟨_, rfl⟩
 have HN := Lib.hid hnn
 rcases h.row.2 with ⟨rfl, hz⟩ | ⟨g, cap, cur, rfl, hB, hg, h1, h2, h3, h4⟩
 ·have hL : L = [] := List.length_eq_zero_iff.1 hz
  subst hL
  go_enter Tryz.func46, Tryz.ntmps46
  go_wp2
  go_loop [1, 5] (fun kv iv => kv = .int .i64 m ∧ iv = .int .i64 0) (fun _ _ => 0)
  case atStart => exact ⟨rfl, rfl⟩
  case round =>
   obtain ⟨rfl, rfl⟩ := hrel
   go_wp2
   go_ret
   exact ⟨by simp [cntL, szL], by simpa [markV] using h, Kept.refl _ _⟩
 ·have HO := Lib.hid h
  have hg0 := h.lt g (.inl rfl)
  unfold maxLen at h2
  have hcap : n ≤ cap := by omega
  clear h hg h1 h3 h4
  rw [hnn] at HO hn ⊢
  clear hnn
  go_enter Tryz.func46, Tryz.ntmps46
  go_wp2
  go_loopw [1, 5] (fun kv iv wr => ∃ k : Nat, k ≤ n ∧ kv = .int .i64 ((m : Int) + cntL (L.take k)) ∧ iv = .int .i64 k ∧ Hid (OwnV wr B (.slice (some ⟨g, 0, none⟩) n cap) (markedV m k L) xs) ∧ Hid (Kept (OnV (.slice (some ⟨g, 0, none⟩) n cap) xs) w wr)) (fun _ iv _ => n - (intOf iv).toNat)
  case atStart => exact ⟨0, Nat.zero_le _, by simp [cntL, szL], rfl, by rw [markedV_zero]; exact HO, Lib.hid (Kept.refl _ _)⟩
  case round =>
   obtain ⟨k, hk, rfl, rfl, HK, HG⟩ := hrel
   by_cases hlt : k < n
   ·have hltL : k < L.length := by rw [HN.out]; exact hlt
    have hi1 : k < (markedV m k L).length := by rw [markedV_length]; exact hltL
    have hi2 : k < xs.length := by rw [HK.out.len]; exact hi1
    have q0 := (HK.out.cells k hi1 hi2).1
    have q1 := (HK.out.cells k hi1 hi2).2.1
    have q2 := (HK.out.cells k hi1 hi2).2.2
    have z0 := HK.out.frozen (k * 3)
    have CT := Lib.hid (cntL_take hltL)
    have CL := cntL_take_le L (k + 1)
    have hwb : (m : Int) + cntL (L.take k) + 1 + (L[k]'hltL).mag.length + (L[k]'hltL).den.length ≤ 9223372036854775807 := by have := CT.out; omega
    clear CL
    have hat := markedV_at (m := m) (k := k) hltL
    have hr := HK.out.each k hi1 hi2
    rw [hat] at hr
    clear hat
    have W1 := Lib.hid ((HK.out.set0 k ((m + cntL (L.take k) : Int) % 3 == 0) hi1).cells k (by simpa using hi1) hi2).2.1
    have hk1 := kept_set wr g (k * 3) (.bool ((m + cntL (L.take k) : Int) % 3 == 0))
    have r1 := Lib.hid (hr.kept hk1 (fun g' e hg => HK.out.ne_row k hi2 g' e (by rw [hg]; rfl)))
    have W2 := Lib.hid ((HK.out.set0 k ((m + cntL (L.take k) : Int) % 3 == 0) hi1).cells k (by simpa using hi1) hi2).2.2
    have NR := Lib.hid (HK.out.ne_row k hi2)
    have w1 := W1.out
    go_wp2_with fail
    refine (mark_ints _ (m + cntL (L.take k) + 1) _ _ B _ (by omega) r1.out.1 (by omega)).mono ?_
    rintro e w2 ⟨rfl, o2, g2⟩
    have q3 : w2.cell? ⟨g, k * 3 + 2, none⟩ = some (xs[k]'hi2).2 := g2.cell W2.out (fun e => NR.out g (.inl e.symm) rfl)
    have O2 := Lib.hid o2
    have G2 := Lib.hid g2
    have R2 := Lib.hid (r1.out.2.1.other g2 (fun a a' e e' => (r1.out.2.2 a' a e' e).symm))
    clear o2 g2 w1 q0 q1 q2 z0
    go_wp2_with fail
    refine (mark_ints _ (m + cntL (L.take k) + 1 + (L[k]'hltL).mag.length) _ _ B _ (by simp) R2.out (by omega)).mono ?_
    rintro e w3 ⟨rfl, o3, g3⟩
    have G3 := Lib.hid g3
    have O3 := Lib.hid o3
    clear g3 o3
    go_wp2_with fail
    obtain ⟨e1, e2⟩ := HK.out.mark k hi1 hi2 ((m + cntL (L.take k) : Int) % 3 == 0) O2.out G2.out O3.out G3.out
    have e3 := markedV_set (m := m) hltL
    unfold markF at e3
    rw [Int.natCast_add] at e3
    rw [e3] at e1
    have hc := CT.out
    exact ⟨⟨k + 1, by omega, by rw [hc]; simp; omega, by go_num, Lib.hid e1, Lib.hid (HG.out.trans e2)⟩, by simp [intOf]; omega⟩
   ·obtain rfl : k = n := by omega
    go_wp2
    go_ret
    have h := HK.out
    rw [← HN.out, markedV_full] at h
    rw [← HN.out, List.take_length]
    exact ⟨rfl, h, HG.out⟩
set_option maxHeartbeats 1000000 in
theorem held_ratv (v : Value) (m : Nat) (mi : Int) (L : List Fr) (w : World) (hmi : mi = m) (h : RatsAt w v (markV m L)) (hm : m + cntL L ≤ 9223372036854775807) :
  Calls Tryz.prog 47 #[v, .int .i64 mi] w fun e w' => e = .returned (.int .i64 ((m : Int) + cntL L)) ∧ Below w.heap.size w w' := by
 subst hmi
 obtain ⟨a, cap, rfl, hc, hmx, hr⟩ := h
 unfold maxLen at hmx
 rw [markV_length] at hc ⊢
 have R := Lib.hid hr
 clear hr
 obtain ⟨n, hnn⟩ : ∃ n, L.length = n := ⟨_, rfl⟩
 rw [hnn] at hc ⊢
 have HN := Lib.hid hnn
 clear hnn
 go_enter Tryz.func47, Tryz.ntmps47
 go_wp2
 have HB := Lib.hid (Below.refl w.heap.size w)
 go_loopw [1, 5] (fun kv iv wr => ∃ k : Nat, k ≤ n ∧ kv = .int .i64 ((m : Int) + cntL (L.take k)) ∧ iv = .int .i64 k ∧ Hid (Below w.heap.size w wr)) (fun _ iv _ => n - (intOf iv).toNat)
 case atStart => exact ⟨0, Nat.zero_le _, by simp [cntL, szL], rfl, HB⟩
 case round =>
  obtain ⟨k, hk, rfl, rfl, HBk⟩ := hrel
  by_cases hlt : k < n
  ·have hltL : k < L.length := by rw [HN.out]; exact hlt
   obtain ⟨b, o, x, y, rfl, c0, c1, c2, hrr⟩ := R.out k (by rw [markV_length]; exact hltL)
   rw [markV_at hltL] at c0 hrr
   unfold markF at c0 hrr
   rw [Int.natCast_add] at c0
   have CT := Lib.hid (cntL_take hltL)
   have CL := cntL_take_le L (k + 1)
   have hwb : (m : Int) + cntL (L.take k) + 1 + (L[k]'hltL).mag.length + (L[k]'hltL).den.length ≤ 9223372036854775807 := by have := CT.out; omega
   clear CL
   have d0 := (HBk.out.cell (World.block_lt_of_cell? w _ c0)).trans c0
   have d1 := (HBk.out.cell (World.block_lt_of_cell? w _ c1)).trans c1
   have d2 := (HBk.out.cell (World.block_lt_of_cell? w _ c2)).trans c2
   have C2 := Lib.hid d2
   have R1 := Lib.hid (hrr.below HBk.out).1
   have R2 := Lib.hid (hrr.below HBk.out).2
   clear c0 c1 c2 R hrr d2
   go_wp2_with fail
   refine (held_intsB _ (L[k]'hltL).mag.length (m + cntL (L.take k) + 1) _ _ (by simp) R1.out (by omega)).mono ?_
   rintro e w1 ⟨rfl, b1⟩
   have B1 := Lib.hid (HBk.out.trans (b1.mono HBk.out.size))
   have d3 := (b1.cell (World.block_lt_of_cell? _ _ C2.out)).trans C2.out
   have R3 := Lib.hid (rowOf_below R2.out b1)
   clear b1 d0 d1
   go_wp2_with fail
   refine (held_intsB _ (L[k]'hltL).den.length (m + cntL (L.take k) + 1 + (L[k]'hltL).mag.length) _ _ (by simp) R3.out (by omega)).mono ?_
   rintro e w2 ⟨rfl, b2⟩
   have B2 := Lib.hid (B1.out.trans (b2.mono B1.out.size))
   clear b2
   go_wp2_with fail
   have hc := CT.out
   exact ⟨⟨k + 1, by omega, by rw [hc]; simp; omega, by go_num, B2⟩, by simp [intOf]; omega⟩
  ·obtain rfl : k = n := by omega
   go_wp2
   go_ret
   rw [← HN.out, List.take_length]
   exact ⟨rfl, HBk.out⟩
end Go.Proofs.YtlepgkkpopjgoaaGreat
namespace Go.Proofs.YtlepgkkpopjgoaaGreat
set_option maxRecDepth 100000
set_option linter.unusedVariables false
set_option linter.unusedSimpArgs false
open Go.RowKit Go.WideShapes Go.ChangeShapes
theorem szL_mem : ∀ {L : List Fr} {f : Fr}, f ∈ L → f.mag.length + f.den.length ≤ szL L
 | g :: L, f, h => by
  rcases List.mem_cons.1 h with rfl | h
  ·simp [szL]
  ·have := szL_mem h; simp [szL]; omega
 | [], f, h => by simp at h
theorem sz_ratv_yes (v : Value) (L : List Fr) (left : Int) (w : World) (h : RatsAt w v L) (h0 : 0 ≤ left ∧ left ≤ 1048576) (h1 : (L.length : Int) + szL L ≤ left) :
  Calls Tryz.prog 42 #[v, .int .i64 left] w fun e w' => e = .returned (.int .i64 (left - L.length - szL L)) ∧ Below w.heap.size w w' := by
 have := sz_ratv v L left w h h0
 rw [if_pos h1] at this; exact this
theorem sz_ratv_no (v : Value) (L : List Fr) (left : Int) (w : World) (h : RatsAt w v L) (h0 : 0 ≤ left ∧ left ≤ 1048576) (h1 : ¬ (L.length : Int) + szL L ≤ left) :
  Calls Tryz.prog 42 #[v, .int .i64 left] w fun e w' => e = .returned (.int .i64 (-1)) ∧ Below w.heap.size w w' := by
 have := sz_ratv v L left w h h0
 rw [if_neg h1] at this; exact this
theorem below_kept {n : Nat} {W w w' : World} {S : Nat → Prop} (hb : Below n W w) (hk : Kept S w w') (hB : n ≤ w.heap.size) (h : ∀ k, S k → n ≤ k) : Below n W w' :=
 ⟨hk.os.trans hb.os, hk.tape.trans hb.tape, hk.output.trans hb.output, Nat.le_trans hb.size hk.size, fun k hkn => (hk.block k (by omega) (fun hs => by have := h k hs; omega)).trans (hb.block k hkn)⟩
end Go.Proofs.YtlepgkkpopjgoaaGreat
namespace Go.Proofs.YtlepgkkpopjgoaaGreat
set_option maxRecDepth 100000
set_option linter.unusedVariables false
set_option linter.unusedSimpArgs false
open Go.RowKit Go.WideShapes Go.ChangeShapes Go.Deep
theorem list_of {α : Type} {P : Nat → α → Prop} : ∀ (n : Nat), (∀ i, i < n → ∃ x, P i x) → ∃ L : List α, L.length = n ∧ ∀ i (h : i < L.length), P i (L[i]'h)
 | 0, _ => ⟨[], rfl, fun i h => by simp at h⟩
 | n + 1, H => by
  obtain ⟨L, hl, hp⟩ := list_of n (fun i hi => H i (by omega))
  obtain ⟨x, hx⟩ := H n (by omega)
  refine ⟨L ++ [x], by simp [hl], fun i hi => ?_⟩
  by_cases h : i < L.length
  ·rw [List.getElem_append_left h]; exact hp i h
  ·have e : i = L.length := by simp at hi; omega
   subst e
   rw [List.getElem_append_right (by omega)]
   simp only [Nat.sub_self, List.getElem_cons_zero]
   rw [hl]; exact hx
set_option maxRecDepth 100000 in
theorem rat_cells {H : Type} {enc : TypeId × Value → H} {W : World} {n : Nat} {v0 v1 v2 : Value} {y : DataW H × List MemPlace}
  (hf : DataW.trod enc Tryz.prog W 0 (fun _ => true) true n 107 [v0, v1, v2] = some y) : ∃ f : Fr, v0 = .bool f.neg ∧ RowR W v1 f.mag v2 f.den := by
 obtain ⟨y0, y1, n, _, _, h0, h1⟩ := trod_struct2 (cs := [v0, v1, v2]) Tryz.underlying107 hf
 rw [show Tryz.prog.cellsOf 105 = 2 by kernel_rfl] at h0
 rw [show Tryz.prog.cellsOf 30 = 1 by kernel_rfl] at h1
 have h0' : DataW.trod enc Tryz.prog W 0 (fun _ => true) true n 105 [v0, v1] = some y0 := h0
 have h1' : DataW.trod enc Tryz.prog W 0 (fun _ => true) true n 30 [v2] = some y1 := h1
 obtain ⟨z0, z1, m, _, _, h2, h3⟩ := trod_struct2 (cs := [v0, v1]) Tryz.underlying105 h0'
 rw [show Tryz.prog.cellsOf 4 = 1 by kernel_rfl] at h2
 rw [show Tryz.prog.cellsOf 30 = 1 by kernel_rfl] at h3
 have h2' : DataW.trod enc Tryz.prog W 0 (fun _ => true) true m 4 [v0] = some z0 := h2
 have h3' : DataW.trod enc Tryz.prog W 0 (fun _ => true) true m 30 [v1] = some z1 := h3
 obtain ⟨b, hb, _⟩ := DataW.trod_bool Tryz.underlying4 h2'
 obtain rfl : v0 = .bool b := by simpa using hb
 have hs : ∀ (k : Nat) (u : Value) (y : DataW H × List MemPlace), DataW.trod enc Tryz.prog W 0 (fun _ => true) true k 30 [u] = some y → ∃ zs, RowOf iV W u zs := by
  intro k u y hy
  have hs : ∃ a l c, u = .slice a l c := by
   rcases open_ints Tryz.underlying30 Tryz.underlying3 (by kernel_rfl) hy with ⟨hcs, _⟩ | ⟨x, l', c', zs, hcs, _⟩
   ·exact ⟨none, 0, 0, by simpa using hcs⟩
   ·exact ⟨some x, l', c', by simpa using hcs⟩
  obtain ⟨a, l, c, rfl⟩ := hs
  obtain ⟨zs, hz, _⟩ := ints_in (enc := enc) (W := W) (a := a) (l := l) (c := c) (d := y.1) (p := y.2) ⟨k, hy⟩
  exact ⟨zs, hz⟩
 obtain ⟨zs, hz⟩ := hs m v1 z1 h3'
 obtain ⟨ds, hd⟩ := hs n v2 y1 h1'
 exact ⟨⟨b, zs, ds⟩, rfl, hz, hd⟩
set_option maxRecDepth 100000 in
theorem rats_in {H : Type} {enc : TypeId × Value → H} {W : World} {a : Option Addr} {l c : Nat} {d : DataW H} {p : List MemPlace}
  (h : DataW.Trod enc Tryz.prog W 0 (fun _ => true) true 53 (.slice a l c) d p) : ∃ L : List Fr, RatsAt W (.slice a l c) L ∧ True := by
 obtain ⟨fuel, hf⟩ := h
 rcases open_slice Tryz.underlying53 hf with ⟨hcs, _⟩ | ⟨x, len, cap, m, n, D, Pl, hcs, _, hl, hm, hmm, _, hx⟩
 ·simp [Value.cells] at hcs
  obtain ⟨rfl, rfl, rfl⟩ := hcs
  exact ⟨[], ⟨none, 0, rfl, by simp, by unfold maxLen; omega, fun i hi => by simp at hi⟩, trivial⟩
 ·simp [Value.cells] at hcs
  obtain ⟨rfl, rfl, rfl⟩ := hcs
  rw [show Tryz.prog.cellsOf 107 = 3 by kernel_rfl] at hx
  have hcm : m = c := by simpa using hmm
  obtain ⟨L, hL, hp⟩ := list_of (P := fun i (f : Fr) => ∃ b o x' y', x = ⟨b, o, none⟩ ∧ W.cell? ⟨b, o + i * 3, none⟩ = some (.bool f.neg) ∧ W.cell? ⟨b, o + i * 3 + 1, none⟩ = some x' ∧ W.cell? ⟨b, o + i * 3 + 2, none⟩ = some y' ∧ RowR W x' f.mag y' f.den) l (fun i hi => by
   obtain ⟨cs', h1, h2⟩ := hx i (by omega)
   obtain ⟨_, h3, h4⟩ := World.cells?_some h1
   match cs', h3 with
   | [v0, v1, v2], _ =>
    obtain ⟨f, rfl, hr⟩ := rat_cells h2
    have k0 := h4 0 (by omega)
    have k1 := h4 1 (by omega)
    have k2 := h4 2 (by omega)
    obtain ⟨b, o, spot⟩ := x
    have hspot : spot = none := by
     obtain ⟨cs0, g1, g2⟩ := hx 0 (by omega)
     obtain ⟨_, g3, g4⟩ := World.cells?_some g1
     have g5 := g4 0 (by omega)
     match cs0, g3 with
     | [u0, u1, u2], _ => simpa [Addr.add] using World.cell?_spot g5
    subst hspot
    rw [Go.Deep.add_add] at k0 k1 k2
    rw [add_plain] at k0 k1 k2
    exact ⟨f, b, o, v1, v2, rfl, k0, k1, k2, hr⟩)
  refine ⟨L, ⟨some x, c, by rw [hL], by omega, hm, fun i hi => ?_⟩, trivial⟩
  obtain ⟨b, o, x', y', rfl, h0, h1, h2, h3⟩ := hp i hi
  exact ⟨b, o, x', y', rfl, h0, h1, h2, h3⟩
end Go.Proofs.YtlepgkkpopjgoaaGreat
namespace Go.Proofs.YtlepgkkpopjgoaaGreat
set_option maxRecDepth 100000
set_option linter.unusedVariables false
set_option linter.unusedSimpArgs false
open Go.RowKit Go.WideShapes Go.ChangeShapes
set_option linter.unusedVariables false
set_option maxRecDepth 100000 in
theorem append_rat {ops : Array Oper} {rest : List Oper} {o : Oper} {a : Act} {Q : Exit → Act → World → Prop} {w : World} (hgd : o.guard = none) (s x : Operand)
  (ho : o.op = .call { callee := .builtin .append, args := #[s, x], argTypes := #[23, 23] })
  (B : Nat) (v : Value) (L : List Fr) (xs : List (Value × Value)) (hs : a.eval s = v) (hown : OwnV w B v L xs) (hL : L.length ≤ 100000) (hB : B ≤ w.heap.size)
  (g c : Nat) (hx : a.eval x = .slice (some ⟨g, 0, none⟩) 1 c) (f : Fr) (p q : Value) (hblk : w.heap[g]? = some (.cells #[.bool f.neg, p, q] 34 (0, 0))) (hf : OwnR w B p f.mag q f.den)
  (hne : ∀ i (hi : i < xs.length) r r', ((xs[i]'hi).1.ownBlock = some r ∨ (xs[i]'hi).2.ownBlock = some r) → (p.ownBlock = some r' ∨ q.ownBlock = some r') → r ≠ r')
  (hnr : ∀ r, p.ownBlock = some r ∨ q.ownBlock = some r → v.ownBlock ≠ some r)
  (h : ∀ v' w', OwnV w' B v' (L ++ [f]) (xs ++ [(p, q)]) → w.grownBy w' v.ownBlock → (∀ k, v'.ownBlock = some k → v.ownBlock = some k ∨ w.heap.size ≤ k) → wpList Tryz.prog ops Q rest (a.put o.dst v') w') : wpList Tryz.prog ops Q (o :: rest) a w := by
 obtain ⟨i0, hi, hz0, hz1, hz2⟩ := info_parts info_rat
 obtain ⟨a1, c1, a2, c2, rfl, rfl⟩ := hf.slices
 refine Go.wpList_append_lies w hgd s x 23 ho B 34 i0 _ 3 56 Tryz.underlying23 hi hz0 hz1 hz2 rfl (by decide) v L.length (flat L xs) hs hown.row ⟨g, 0, none⟩ 1 c
  [.bool f.neg, .slice a1 f.mag.length c1, .slice a2 f.den.length c2] hx rfl (World.news_of_block hblk) (by intro u hu; simp at hu; rcases hu with rfl | rfl | rfl <;> rfl) (by decide) (by unfold maxLen; omega) (by omega) hB w.heap.size rfl ?_
 intro g' cap w' hr hg hgg _
 exact h _ w' (hown.snoc hf hne hnr hg hr) hg (fun k hk => by
  have e : g' = k := by simpa [Value.ownBlock] using hk
  subst e
  rcases hgg with e | e
  ·exact .inl e
  ·exact .inr (by omega))
end Go.Proofs.YtlepgkkpopjgoaaGreat
namespace Go.Proofs.YtlepgkkpopjgoaaGreat
set_option maxRecDepth 100000
set_option linter.unusedVariables false
set_option linter.unusedSimpArgs false
open Go.RowKit Go.WideShapes Go.ChangeShapes
set_option linter.unusedVariables false
theorem all_take {α : Type} {p : α → Bool} {L : List α} {k : Nat} (hk : k < L.length) : (L.take (k + 1)).all p = ((L.take k).all p && p (L[k]'hk)) := by
 rw [List.take_succ_eq_append_getElem hk, List.all_append]; simp
theorem all_no {α : Type} {p : α → Bool} {L : List α} {k : Nat} (hk : k < L.length) (h : p (L[k]'hk) = false) : L.all p = false := by
 rw [List.all_eq_false]; exact ⟨_, List.getElem_mem hk, by simp [h]⟩
def vecB (ok : Bool → List Int → List Int → Bool) (L : List Fr) : Bool := decide (L.length ≤ 24) && L.all (fun f => ok f.neg f.mag f.den)
set_option maxHeartbeats 1000000 in
theorem spec_isVector (ok : Bool → List Int → List Int → Bool)
  (HOK : ∀ b v zs d ds w, RowR w v zs d ds → Calls Tryz.prog 120 #[.agg #[.bool b, v, d]] w fun r w' => r = .returned (.bool (ok b zs ds)) ∧ Below w.heap.size w w')
  (v : Value) (L : List Fr) (w : World) (h : RatsAt w v L) :
  Calls Tryz.prog 90 #[v] w fun e w' => e = .returned (.bool (vecB ok L)) ∧ Below w.heap.size w w' := by
 have H := Lib.hid h
 obtain ⟨a, cap, rfl, hc, hm, hr⟩ := h
 unfold maxLen at hm
 obtain ⟨n, hnn⟩ : ∃ n, L.length = n := ⟨_, rfl⟩
 have R := Lib.hid hr
 clear hr
 rw [hnn] at hc H ⊢
 have HN := Lib.hid hnn
 clear hnn
 obtain ⟨r, hr⟩ : ∃ r, r = vecB ok L := ⟨_, rfl⟩
 rw [← hr]
 have HR := Lib.hid hr
 clear hr
 by_cases h24 : n ≤ 24
 ·go_enter Tryz.func90, Tryz.ntmps90
  go_wp2_with fail
  have HB := Lib.hid (Below.refl w.heap.size w)
  go_loopw [10] (fun iv wr => ∃ k : Nat, k ≤ n ∧ iv = .int .i64 k ∧ Hid ((L.take k).all (fun f => ok f.neg f.mag f.den) = true) ∧ Hid (Below w.heap.size w wr)) (fun iv _ => n - (intOf iv).toNat)
  case atStart => exact ⟨0, Nat.zero_le _, rfl, Lib.hid (by simp), HB⟩
  case round =>
   obtain ⟨k, hk, rfl, HA, HBk⟩ := hrel
   by_cases hlt : k < n
   ·have hltL : k < L.length := by rw [HN.out]; exact hlt
    obtain ⟨b, o, x, y, rfl, c0, c1, c2, hrr⟩ := R.out k hltL
    have d0 := (HBk.out.cell (World.block_lt_of_cell? w _ c0)).trans c0
    have d1 := (HBk.out.cell (World.block_lt_of_cell? w _ c1)).trans c1
    have d2 := (HBk.out.cell (World.block_lt_of_cell? w _ c2)).trans c2
    have RR := Lib.hid (hrr.below HBk.out)
    obtain ⟨a1, r1, a2, r2, rfl, rfl, hz1, hz2⟩ := rowR_len hrr
    clear c0 c1 c2 R hrr
    cases hq : ok (L[k]'hltL).neg (L[k]'hltL).mag (L[k]'hltL).den with
    | true =>
     have HQ := Lib.hid hq
     go_wp2_with fail
     have bA := (Below.refl wr.heap.size wr).alloc (Nat.le_refl _) (.cells #[.bool (L[k]'hltL).neg, .slice a1 (L[k]'hltL).mag.length r1, .slice a2 (L[k]'hltL).den.length r2] 34)
     have T := HOK (L[k]'hltL).neg _ _ _ _ _ (RR.out.below bA)
     rw [hq] at T
     refine T.mono ?_
     rintro e w1 ⟨rfl, b1⟩
     have BB := Lib.hid (HBk.out.trans ((bA.trans (b1.mono (by simp))).mono HBk.out.size))
     clear b1 T bA
     go_wp2_with fail
     exact ⟨⟨k + 1, by omega, by go_num, Lib.hid (by rw [all_take hltL, HA.out, hq]; rfl), BB⟩, by simp [intOf]; omega⟩
    | false =>
     go_wp2_with fail
     have bA := (Below.refl wr.heap.size wr).alloc (Nat.le_refl _) (.cells #[.bool (L[k]'hltL).neg, .slice a1 (L[k]'hltL).mag.length r1, .slice a2 (L[k]'hltL).den.length r2] 34)
     have T := HOK (L[k]'hltL).neg _ _ _ _ _ (RR.out.below bA)
     rw [hq] at T
     refine T.mono ?_
     rintro e w1 ⟨rfl, b1⟩
     have BB := Lib.hid (HBk.out.trans ((bA.trans (b1.mono (by simp))).mono HBk.out.size))
     clear b1 T bA
     go_wp2_with fail
     go_ret
     have h1 := HR.out
     rw [vecB, all_no hltL hq, Bool.and_false] at h1
     exact ⟨by rw [h1]; rfl, BB.out⟩
   ·obtain rfl : k = n := by omega
    go_wp2
    go_ret
    have h1 := HR.out
    have h2 := HA.out
    rw [← HN.out, List.take_length] at h2
    rw [vecB, HN.out, h2, decide_eq_true h24] at h1
    exact ⟨by rw [h1]; rfl, HBk.out⟩
 ·go_enter Tryz.func90, Tryz.ntmps90
  go_wp2
  go_ret
  have h1 := HR.out
  rw [vecB, HN.out, decide_eq_false h24] at h1
  exact ⟨by rw [h1]; rfl, Below.refl _ _⟩
end Go.Proofs.YtlepgkkpopjgoaaGreat
namespace Go.Proofs.YtlepgkkpopjgoaaGreat
set_option maxRecDepth 100000
set_option linter.unusedVariables false
set_option linter.unusedSimpArgs false
open Go.RowKit Go.WideShapes Go.ChangeShapes
set_option linter.unusedVariables false
def badF (f : Fr) : Bool := decide (f.den.length = 0)
def fineV (L : List Fr) : Bool := L.all (fun f => !badF f)
theorem spec_bad (b : Bool) (v : Value) (zs : List Int) (d : Value) (ds : List Int) (w : World) (h : RowR w v zs d ds) :
  Calls Tryz.prog 84 #[.agg #[.bool b, v, d]] w fun r w' => r = .returned (.bool (decide (ds.length = 0))) ∧ Below w.heap.size w w' := by
 obtain ⟨a, c, e, f, rfl, rfl, h1, h2⟩ := rowR_len h
 go_enter Tryz.func84, Tryz.ntmps84
 go_wp2
 go_ret
 exact ⟨congrArg (fun q => Ending.returned (Value.bool q)) (Bool.eq_iff_iff.2 (by simp)), (Below.refl w.heap.size w).alloc (Nat.le_refl _) _⟩
set_option maxHeartbeats 1000000 in
theorem spec_fine (v : Value) (L : List Fr) (w : World) (h : RatsAt w v L) :
  Calls Tryz.prog 80 #[v] w fun e w' => e = .returned (.bool (fineV L)) ∧ Below w.heap.size w w' := by
 obtain ⟨a, cap, rfl, hc, hm, hr⟩ := h
 unfold maxLen at hm
 obtain ⟨n, hnn⟩ : ∃ n, L.length = n := ⟨_, rfl⟩
 have R := Lib.hid hr
 clear hr
 rw [hnn] at hc ⊢
 have HN := Lib.hid hnn
 clear hnn
 obtain ⟨r, hr⟩ : ∃ r, r = fineV L := ⟨_, rfl⟩
 rw [← hr]
 have HR := Lib.hid hr
 clear hr
 go_enter Tryz.func80, Tryz.ntmps80
 go_wp2_with fail
 have HB := Lib.hid (Below.refl w.heap.size w)
 go_loopw [7] (fun iv wr => ∃ k : Nat, k ≤ n ∧ iv = .int .i64 k ∧ Hid ((L.take k).all (fun f => !badF f) = true) ∧ Hid (Below w.heap.size w wr)) (fun iv _ => n - (intOf iv).toNat)
 case atStart => exact ⟨0, Nat.zero_le _, rfl, Lib.hid (by simp), HB⟩
 case round =>
  obtain ⟨k, hk, rfl, HA, HBk⟩ := hrel
  by_cases hlt : k < n
  ·have hltL : k < L.length := by rw [HN.out]; exact hlt
   obtain ⟨b, o, x, y, rfl, c0, c1, c2, hrr⟩ := R.out k hltL
   have d0 := (HBk.out.cell (World.block_lt_of_cell? w _ c0)).trans c0
   have d1 := (HBk.out.cell (World.block_lt_of_cell? w _ c1)).trans c1
   have d2 := (HBk.out.cell (World.block_lt_of_cell? w _ c2)).trans c2
   have RR := Lib.hid (hrr.below HBk.out)
   obtain ⟨a1, r1, a2, r2, rfl, rfl, hz1, hz2⟩ := rowR_len hrr
   clear c0 c1 c2 R hrr
   cases hq : badF (L[k]'hltL) with
   | false =>
    have hq2 : decide ((L[k]'hltL).den.length = 0) = false := hq
    go_wp2_with fail
    have bA := (Below.refl wr.heap.size wr).alloc (Nat.le_refl _) (.cells #[.bool (L[k]'hltL).neg, .slice a1 (L[k]'hltL).mag.length r1, .slice a2 (L[k]'hltL).den.length r2] 34)
    have T := spec_bad (L[k]'hltL).neg _ _ _ _ _ (RR.out.below bA)
    rw [hq2] at T
    refine T.mono ?_
    rintro e w1 ⟨rfl, b1⟩
    have BB := Lib.hid (HBk.out.trans ((bA.trans (b1.mono (by simp))).mono HBk.out.size))
    clear b1 T bA
    go_wp2_with fail
    exact ⟨⟨k + 1, by omega, by go_num, Lib.hid (by rw [all_take hltL, HA.out, hq]; rfl), BB⟩, by simp [intOf]; omega⟩
   | true =>
    have hq2 : decide ((L[k]'hltL).den.length = 0) = true := hq
    go_wp2_with fail
    have bA := (Below.refl wr.heap.size wr).alloc (Nat.le_refl _) (.cells #[.bool (L[k]'hltL).neg, .slice a1 (L[k]'hltL).mag.length r1, .slice a2 (L[k]'hltL).den.length r2] 34)
    have T := spec_bad (L[k]'hltL).neg _ _ _ _ _ (RR.out.below bA)
    rw [hq2] at T
    refine T.mono ?_
    rintro e w1 ⟨rfl, b1⟩
    have BB := Lib.hid (HBk.out.trans ((bA.trans (b1.mono (by simp))).mono HBk.out.size))
    clear b1 T bA
    go_wp2_with fail
    go_ret
    have h1 := HR.out
    rw [fineV, all_no hltL (by rw [hq]; rfl)] at h1
    exact ⟨by rw [h1]; rfl, BB.out⟩
  ·obtain rfl : k = n := by omega
   go_wp2
   go_ret
   have h1 := HR.out
   have h2 := HA.out
   rw [← HN.out, List.take_length] at h2
   rw [fineV, h2] at h1
   exact ⟨by rw [h1]; rfl, HBk.out⟩
end Go.Proofs.YtlepgkkpopjgoaaGreat
namespace Go.Proofs.YtlepgkkpopjgoaaGreat
set_option maxRecDepth 100000
set_option linter.unusedVariables false
set_option linter.unusedSimpArgs false
open Go.RowKit Go.WideShapes Go.ChangeShapes
set_option linter.unusedVariables false
set_option maxHeartbeats 1000000 in
theorem impl_isVectorH (ok : Bool → List Int → List Int → Bool)
  (HOK : ∀ b v zs d ds w, RowR w v zs d ds → Calls Tryz.prog 65 #[.agg #[.bool b, v, d]] w fun r w' => r = .returned (.bool (ok b zs ds)) ∧ Below w.heap.size w w')
  (v : Value) (L : List Fr) (w : World) (h : RatsAt w v L) :
  Calls Tryz.prog 64 #[v] w fun e w' => e = .returned (.bool (vecB ok L)) ∧ Below w.heap.size w w' := by
 have H := Lib.hid h
 obtain ⟨a, cap, rfl, hc, hm, hr⟩ := h
 unfold maxLen at hm
 obtain ⟨n, hnn⟩ : ∃ n, L.length = n := ⟨_, rfl⟩
 have R := Lib.hid hr
 clear hr
 rw [hnn] at hc H ⊢
 have HN := Lib.hid hnn
 clear hnn
 obtain ⟨r, hr⟩ : ∃ r, r = vecB ok L := ⟨_, rfl⟩
 rw [← hr]
 have HR := Lib.hid hr
 clear hr
 by_cases h24 : n ≤ 24
 ·go_enter Tryz.func64, Tryz.ntmps64
  go_wp2_with fail
  have HB := Lib.hid (Below.refl w.heap.size w)
  go_loopw [10] (fun iv wr => ∃ k : Nat, k ≤ n ∧ iv = .int .i64 k ∧ Hid ((L.take k).all (fun f => ok f.neg f.mag f.den) = true) ∧ Hid (Below w.heap.size w wr)) (fun iv _ => n - (intOf iv).toNat)
  case atStart => exact ⟨0, Nat.zero_le _, rfl, Lib.hid (by simp), HB⟩
  case round =>
   obtain ⟨k, hk, rfl, HA, HBk⟩ := hrel
   by_cases hlt : k < n
   ·have hltL : k < L.length := by rw [HN.out]; exact hlt
    obtain ⟨b, o, x, y, rfl, c0, c1, c2, hrr⟩ := R.out k hltL
    have d0 := (HBk.out.cell (World.block_lt_of_cell? w _ c0)).trans c0
    have d1 := (HBk.out.cell (World.block_lt_of_cell? w _ c1)).trans c1
    have d2 := (HBk.out.cell (World.block_lt_of_cell? w _ c2)).trans c2
    have RR := Lib.hid (hrr.below HBk.out)
    obtain ⟨a1, r1, a2, r2, rfl, rfl, hz1, hz2⟩ := rowR_len hrr
    clear c0 c1 c2 R hrr
    cases hq : ok (L[k]'hltL).neg (L[k]'hltL).mag (L[k]'hltL).den with
    | true =>
     have HQ := Lib.hid hq
     go_wp2_with fail
     have bA := (Below.refl wr.heap.size wr).alloc (Nat.le_refl _) (.cells #[.bool (L[k]'hltL).neg, .slice a1 (L[k]'hltL).mag.length r1, .slice a2 (L[k]'hltL).den.length r2] 34)
     have T := HOK (L[k]'hltL).neg _ _ _ _ _ (RR.out.below bA)
     rw [hq] at T
     refine T.mono ?_
     rintro e w1 ⟨rfl, b1⟩
     have BB := Lib.hid (HBk.out.trans ((bA.trans (b1.mono (by simp))).mono HBk.out.size))
     clear b1 T bA
     go_wp2_with fail
     exact ⟨⟨k + 1, by omega, by go_num, Lib.hid (by rw [all_take hltL, HA.out, hq]; rfl), BB⟩, by simp [intOf]; omega⟩
    | false =>
     go_wp2_with fail
     have bA := (Below.refl wr.heap.size wr).alloc (Nat.le_refl _) (.cells #[.bool (L[k]'hltL).neg, .slice a1 (L[k]'hltL).mag.length r1, .slice a2 (L[k]'hltL).den.length r2] 34)
     have T := HOK (L[k]'hltL).neg _ _ _ _ _ (RR.out.below bA)
     rw [hq] at T
     refine T.mono ?_
     rintro e w1 ⟨rfl, b1⟩
     have BB := Lib.hid (HBk.out.trans ((bA.trans (b1.mono (by simp))).mono HBk.out.size))
     clear b1 T bA
     go_wp2_with fail
     go_ret
     have h1 := HR.out
     rw [vecB, all_no hltL hq, Bool.and_false] at h1
     exact ⟨by rw [h1]; rfl, BB.out⟩
   ·obtain rfl : k = n := by omega
    go_wp2
    go_ret
    have h1 := HR.out
    have h2 := HA.out
    rw [← HN.out, List.take_length] at h2
    rw [vecB, HN.out, h2, decide_eq_true h24] at h1
    exact ⟨by rw [h1]; rfl, HBk.out⟩
 ·go_enter Tryz.func64, Tryz.ntmps64
  go_wp2
  go_ret
  have h1 := HR.out
  rw [vecB, HN.out, decide_eq_false h24] at h1
  exact ⟨by rw [h1]; rfl, Below.refl _ _⟩
theorem impl_tooLarge (b : Bool) (v : Value) (zs : List Int) (d : Value) (ds : List Int) (w : World) (h : RowR w v zs d ds) :
  Calls Tryz.prog 63 #[.agg #[.bool b, v, d]] w fun r w' => r = .returned (.bool (decide (ds.length = 0))) ∧ Below w.heap.size w w' := by
 obtain ⟨a, c, e, f, rfl, rfl, h1, h2⟩ := rowR_len h
 go_enter Tryz.func63, Tryz.ntmps63
 go_wp2
 go_ret
 exact ⟨congrArg (fun q => Ending.returned (Value.bool q)) (Bool.eq_iff_iff.2 (by simp)), (Below.refl w.heap.size w).alloc (Nat.le_refl _) _⟩
theorem spec_nilR (b : Bool) (v : Value) (zs : List Int) (d : Value) (ds : List Int) (w : World) (h : RowR w v zs d ds) :
  Calls Tryz.prog 122 #[.agg #[.bool b, v, d]] w fun r w' => r = .returned (.bool (decide (zs.length = 0))) ∧ Below w.heap.size w w' := by
 obtain ⟨a, c, e, f, rfl, rfl, h1, h2⟩ := rowR_len h
 go_enter Tryz.func122, Tryz.ntmps122
 go_wp2
 go_ret
 exact ⟨congrArg (fun q => Ending.returned (Value.bool q)) (Bool.eq_iff_iff.2 (by simp)), (Below.refl w.heap.size w).alloc (Nat.le_refl _) _⟩
end Go.Proofs.YtlepgkkpopjgoaaGreat
namespace Go.Proofs.YtlepgkkpopjgoaaGreat
set_option maxRecDepth 100000
set_option linter.unusedVariables false
set_option linter.unusedSimpArgs false
open Go.RowKit Go.WideShapes Go.ChangeShapes
set_option linter.unusedVariables false
def zipF (f : Fr → Fr → Fr) (A B : List Fr) : List Fr := List.zipWith f A B
theorem zip_take {f : Fr → Fr → Fr} {A B : List Fr} {k : Nat} (h0 : k < A.length) (h1 : k < B.length) : zipF f (A.take (k + 1)) (B.take (k + 1)) = zipF f (A.take k) (B.take k) ++ [f (A[k]'h0) (B[k]'h1)] := by
 unfold zipF
 rw [List.take_succ_eq_append_getElem h0, List.take_succ_eq_append_getElem h1, List.zipWith_append (by simp; omega)]
 rfl
end Go.Proofs.YtlepgkkpopjgoaaGreat
namespace Go.Proofs.YtlepgkkpopjgoaaGreat
open Go.RowKit Go.WideShapes Go.ChangeShapes
set_option linter.unusedVariables false
def zF : Fr := ⟨false, [], [1]⟩
end Go.Proofs.YtlepgkkpopjgoaaGreat
