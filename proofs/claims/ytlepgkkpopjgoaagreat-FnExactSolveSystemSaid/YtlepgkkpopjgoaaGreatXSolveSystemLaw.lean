/- ElIbes ElIbe2 ElSolve ElSolM SolveSystemLaw. -/
import Derived.Test.YtlepgkkpopjgoaaGreatXElSys
import Derived.Test.YtlepgkkpopjgoaaGreatXMatIapp
import Derived.Test.YtlepgkkpopjgoaaGreatXMatId
import Derived.Test.YtlepgkkpopjgoaaGreatXVecZero
import Derived.Test.YtlepgkkpopjgoaaGreatXElSpec
import Derived.Test.YtlepgkkpopjgoaaGreatXVecOk
import Derived.Stop.RegionWithIn
import Derived.Deep.CutBlock
import Derived.Deep.CutRange
import Derived.Deep.RegionHeld3
namespace Go.Proofs.YtlepgkkpopjgoaaGreat
open Go.RowKit Go.WideShapes Go.ChangeShapes
set_option linter.unusedVariables false
set_option linter.unusedSimpArgs false
def appSemR (ty : TypeId) (args : Array Value) : Sem Value := Builtin.append_ #[23, 23] ty args
theorem app_semR (ty : TypeId) (args : Array Value) : Builtin.append_ #[23, 23] ty args = appSemR ty args := rfl
theorem appended_rats (w : World) (ty : TypeId) (B : Nat) (v : Value) (U : List Fr) (us : List (Value × Value)) (hown : w.ownsRow B 34 3 v U.length (flat U us)) (hul : us.length = U.length) (hL : U.length ≤ 100000) (hB : B ≤ w.heap.size)
  (ad : Addr) (k c : Nat) (P : List Fr) (ps : List (Value × Value)) (hk : P.length = k) (hps : ps.length = P.length) (hcell : ∀ j u, (flat P ps)[j]? = some u → w.cell? (ad.add j) = some u) (h1 : ∀ u ∈ flat P ps, u.oneCell' = true) (hk2 : k ≤ 1000) :
  ∃ a' c' w', (appSemR ty #[v, .slice (some ad) k c]).run Tryz.prog w = .ok (.slice a' (U.length + k) c') w' ∧ w'.ownsRow B 34 3 (.slice a' (U.length + k) c') (U.length + k) (flat (U ++ P) (us ++ ps)) ∧ w.grownBy w' v.ownBlock := by
 obtain ⟨i0, hi, hz0, hz1, hz2⟩ := info_parts info_rat
 obtain ⟨v', w', hr, h2, h3, h4⟩ := run_append_own (P := Tryz.prog) w B 23 ty 34 i0 _ 3 56 Tryz.underlying23 hi hz0 hz1 hz2 rfl (by decide) v U.length (flat U us) hown ad k c (flat P ps)
  (by rw [flat_len P ps hps, hk]) hcell h1 (by unfold maxLen; omega) (by omega) hB
 obtain ⟨a', c', rfl⟩ := own_form h2
 exact ⟨a', c', w', hr, by rw [flat_app U us P ps hul]; exact h2, h3⟩
def bsF (C K : Nat) (L M : List Fr) (l : List Nat) : List Fr := l.flatMap (fun j => rowX L C j ++ rowX M K j)
def bsGF {α : Type} (C K : Nat) (xs ys : List α) (l : List Nat) : List α := l.flatMap (fun j => rowG xs C j ++ rowG ys K j)
theorem bsF_snoc (C K : Nat) (L M : List Fr) (l : List Nat) (i : Nat) : bsF C K L M (l ++ [i]) = (bsF C K L M l ++ rowX L C i) ++ rowX M K i := by unfold bsF; rw [List.flatMap_append]; simp
theorem bsGF_snoc {α : Type} (C K : Nat) (xs ys : List α) (l : List Nat) (i : Nat) : bsGF C K xs ys (l ++ [i]) = (bsGF C K xs ys l ++ rowG xs C i) ++ rowG ys K i := by unfold bsGF; rw [List.flatMap_append]; simp
theorem bsGF_rows {w : World} {C K : Nat} {L M : List Fr} {xs ys : List (Value × Value)} (h : RowsR w L xs) (k : RowsR w M ys) (l : List Nat) : RowsR w (bsF C K L M l) (bsGF C K xs ys l) := by
 induction l with
 | nil => exact RowsR.nil w
 | cons j l ih =>
  have e1 : bsF C K L M (j :: l) = (rowX L C j ++ rowX M K j) ++ bsF C K L M l := rfl
  have e2 : bsGF C K xs ys (j :: l) = (rowG xs C j ++ rowG ys K j) ++ bsGF C K xs ys l := rfl
  rw [e1, e2]
  exact ((h.part _ _).append (k.part _ _)).append ih
theorem bsF_len {C K : Nat} {L M : List Fr} (l : List Nat) : (bsF C K L M l).length ≤ l.length * (C + K) := by
 induction l with
 | nil => simp [bsF]
 | cons j l ih =>
  have e1 : bsF C K L M (j :: l) = (rowX L C j ++ rowX M K j) ++ bsF C K L M l := rfl
  have h1 : (rowX L C j).length ≤ C := by unfold rowX; rw [List.length_take]; omega
  have h2 : (rowX M K j).length ≤ K := by unfold rowX; rw [List.length_take]; omega
  rw [e1, List.length_append, List.length_append, List.length_cons, Nat.add_mul, Nat.one_mul]
  omega
theorem rowR_isCells {w : World} {B n : Nat} {v : Value} {cs : List Value} (h : w.ownsRow B 34 3 v n cs) : ∀ k, v.ownBlock = some k → ∃ o : Obj, w.heap[k]? = some o ∧ o.isCells = true := by
 intro k e
 rcases h.2 with ⟨rfl, _⟩ | ⟨g1, cap1, cur1, rfl, _, hg1, _⟩
 ·simp [Value.ownBlock] at e
 ·have e1 : g1 = k := by simpa [Value.ownBlock] using e
  subst e1
  exact ⟨_, hg1, rfl⟩
theorem sha_own {β : Type} (B p : Nat) (t : TypeId) (x y : Value) (m : β → Nat) (f : β → List Value) : Own (fun s W => ∃ vo, B3 W p t x y vo ∧ W.ownsRow B 34 3 vo (m s) (f s)) := fun s X Y row ⟨vo, h, h'⟩ hg hrow =>
 ⟨vo, b3_own (β := Unit) p t x y vo () X Y row h hg hrow, rowV_kept h' (Kept.of_grown hg) (fun k e hk => by
  obtain ⟨o, ho, hc⟩ := hrow k hk
  obtain ⟨o', ho', hc'⟩ := rowR_isCells h' k e
  rw [ho] at ho'; injection ho' with e1; subst e1; rw [hc] at hc'; cases hc')⟩
theorem rowV_in (b o C i : Nat) (hC : 0 < C) : rowV (some ⟨b, o, none⟩) C i = .slice (some ⟨b, o + i * C * 3, none⟩) C C := by
 unfold rowV
 rw [if_neg (by omega)]
 simp [Addr.add]
theorem ratsX' {w : World} {a : Option Addr} {n cap : Nat} {L : List Fr} (h : RatsAt w (.slice a n cap) L) : ∃ xs, RowsR w L xs ∧ (0 < L.length → ∃ b o, a = some ⟨b, o, none⟩ ∧ RatsX w b o L xs) := by
 by_cases h0 : 0 < L.length
 ·obtain ⟨b, o, xs, ha, hx⟩ := ratsX h h0
  exact ⟨xs, hx.R, fun _ => ⟨b, o, ha, hx⟩⟩
 ·have : L = [] := List.eq_nil_of_length_eq_zero (by omega)
  subst this
  exact ⟨[], RowsR.nil w, fun h => absurd h h0⟩
end Go.Proofs.YtlepgkkpopjgoaaGreat
namespace Go.Proofs.YtlepgkkpopjgoaaGreat
open Go.RowKit Go.WideShapes Go.ChangeShapes
set_option linter.unusedVariables false
set_option linter.unusedSimpArgs false
attribute [local go_sem] Oper.semAt_some
attribute [local go_sem ↓] app_semR
set_option maxRecDepth 100000 in
set_option maxHeartbeats 8000000 in
theorem impl_beside (R C K n m ca cb : Nat) (a b : Option Addr) (L M : List Fr) (w : World) (hh1 : RatsAt w (.slice a n ca) L) (hh2 : RatsAt w (.slice b m cb) M) (H : BesOk R C K n m L M) :
    Calls Tryz.prog 100 #[.agg #[.int .i64 (R : Int), .int .i64 (C : Int), .slice a n ca], .agg #[.int .i64 (R : Int), .int .i64 (K : Int), .slice b m cb]] w fun e w' => ∃ u, e = .returned (.agg #[.int .i64 (R : Int), .int .i64 ((C : Int) + K), u]) ∧ RatsAt w' u (bsU C K L M R) ∧ Below w.heap.size w w' := by
  obtain ⟨xL, RL, hXL⟩ := ratsX' hh1
  obtain ⟨xM, RM, hXM⟩ := ratsX' hh2
  obtain ⟨_, _, e9, hca, hcam, _⟩ := hh1
  injection e9 with q1 q2 q3
  subst q1 q3
  unfold maxLen at hcam
  rw [H.hL] at hca
  clear q2
  obtain ⟨_, _, e9, hcb, hcbm, _⟩ := hh2
  injection e9 with q1 q2 q3
  subst q1 q3
  unfold maxLen at hcbm
  rw [H.hM] at hcb
  clear q2
  have HB := Lib.hid H
  have hR := H.hR
  have hC := H.hC
  have hK := H.hK
  have hCK := H.hCK
  have hn9 := H.n9.1
  have hm9 := H.n9.2
  have HRL := Lib.hid RL
  have HRM := Lib.hid RM
  have HXL := Lib.hid hXL
  have HXM := Lib.hid hXM
  clear H RL RM hXL hXM
  rename_i hr1 hr2
  clear hr1 hr2
  obtain ⟨h, hh⟩ : ∃ h, w.heap.size = h := ⟨_, rfl⟩
  have HH := Lib.hid hh
  refine (callsIn_wide (n := 3)).1 ?_
  refine callsIn_of_wp_marks Tryz.func100 rfl trivial ?_ rfl
  simp only [Tryz.ntmps100, List.size_toArray, List.length_cons, List.length_nil, Nat.reduceAdd, Nat.reduceSub, Array.replicate_succ, Array.replicate_zero, List.push_toArray, List.append_toArray, List.nil_append, List.cons_append]
  refine wpIn_wide.2 ?_
  go_wp2_with (go_at_call 70; refine ((callsIn_wide (n := 3)).1 (rows_in Fence.wide _ trivial rfl _ _ _ _)).mono ?_; rintro e w' ⟨rfl, rfl⟩)
  obtain ⟨q, hq⟩ : ∃ q, q = h + 1 + 1 + 1 + 1 := ⟨_, rfl⟩
  obtain ⟨W4, hW4⟩ : ∃ x, x = ((((w.alloc (.cells #[.int .i64 (R : Int), .int .i64 (C : Int), .slice a n ca] 25)).alloc (.cells #[.int .i64 (R : Int), .int .i64 (K : Int), .slice b m cb] 25)).alloc (.cells #[.int .i64 0, .int .i64 0, .slice none 0 0] 25)).alloc (.cells #[.int .i64 (R : Int), .int .i64 ((C : Int) + (K : Int)), .slice none 0 0] 25)).alloc (.cells #[.int .i64 (R : Int), .int .i64 (C : Int), .slice a n ca] 25) := ⟨_, rfl⟩
  have DB := Lib.hid (show B3 W4 q 25 (.int .i64 (R : Int)) (.int .i64 (C : Int)) (.slice a n ca) by rw [hW4, hq, ← hh]; exact b3_at (B3.new _ _ _ _ _) (by simp))
  have RB := Lib.hid (show B3 W4 (h + 1) 25 (.int .i64 (R : Int)) (.int .i64 (K : Int)) (.slice b m cb) by rw [hW4, ← hh]; exact b3_at ((((B3.new _ _ _ _ _).alloc _).alloc _).alloc _) (by simp))
  have ZB := Lib.hid (show B3 W4 (h + 1 + 1) 25 (.int .i64 0) (.int .i64 0) (.slice none 0 0) by rw [hW4, ← hh]; exact b3_at (((B3.new _ _ _ _ _).alloc _).alloc _) (by simp))
  have OB := Lib.hid (show B3 W4 (h + 1 + 1 + 1) 25 (.int .i64 (R : Int)) (.int .i64 ((C : Int) + (K : Int))) (.slice none 0 0) by rw [hW4, ← hh]; exact b3_at ((B3.new _ _ _ _ _).alloc _) (by simp))
  have B4 := Lib.hid (show Below h w W4 by rw [hW4, ← hh]; exact (((((Below.refl _ _).alloc (Nat.le_refl _) _).alloc (by simp) _).alloc (by simp; omega) _).alloc (by simp; omega) _).alloc (by simp; omega) _)
  have hsq : q < W4.heap.size := DB.out.lt
  have HQ := Lib.hid hq
  rw [show h + 1 + 1 + 1 + 1 = q from hq.symm, ← hW4]
  clear hW4 hq
  refine (wpIn_wide (n := 3)).1 ?_
  refine wpIn_rangeFunc_ownG rfl (by omega) (gf := 112) (lb := #[.pointer (some ⟨q, 0, none⟩)]) rfl trivial (enters_of Tryz.func112 (by kernel_rfl) rfl)
    (rows_stops q R C n _ ca (by omega) a hR hC HB.out.hn hca (by omega) W4 DB.out) (fun h k => KpM.trans h k) (KpM.putObj hsq) (Below.refl _ _) (fun _ => rfl)
    (fun pre W => (B3 W (h + 1) 25 (.int .i64 (R : Int)) (.int .i64 (K : Int)) (.slice b m cb) ∧ B3 W (h + 1 + 1) 25 (.int .i64 0) (.int .i64 0) (.slice none 0 0) ∧ (∃ vo, B3 W (h + 1 + 1 + 1) 25 (.int .i64 (R : Int)) (.int .i64 ((C : Int) + (K : Int))) vo ∧ W.ownsRow (q + 1) 34 3 vo (bsF C K L M (pre.map rix)).length (flat (bsF C K L M (pre.map rix)) (bsGF C K xL xM (pre.map rix)))) ∧ q < W.heap.size) ∧ Below h w W)
    (fun c pre W => (False) ∧ Below h w W)
    (OwnFrom.and (Own.from (fun s A B row hs hg hr => ⟨b3_own _ _ _ _ _ s A B row hs.1 hg hr, b3_own _ _ _ _ _ s A B row hs.2.1 hg hr, sha_own _ _ _ _ _ (fun s : List (RowA R) => (bsF C K L M (s.map rix)).length) (fun s : List (RowA R) => flat (bsF C K L M (s.map rix)) (bsGF C K xL xM (s.map rix))) s A B row hs.2.2.1 hg hr, Nat.lt_of_lt_of_le hs.2.2.2 hg.size⟩) _) (ownFrom_below (by rw [hh]; exact Nat.le_refl _) (by have := HQ.out; omega)))
    (fun c => OwnFrom.and (Own.from (fun s A B row hs hg hr => hs) _) (ownFrom_below (by rw [hh]; exact Nat.le_refl _) (by have := HQ.out; omega)))
    ⟨⟨RB.out, ZB.out, ⟨_, OB.out, World.ownsRow_nil _ _ _ _⟩, hsq⟩, B4.out⟩
    (fun y => { tmps := #[.agg #[.int .i64 (R : Int), .int .i64 (C : Int), .slice a n ca], .agg #[.int .i64 (R : Int), .int .i64 (K : Int), .slice b m cb], .pointer (some ⟨h, 0, none⟩), .pointer (some ⟨h + 1, 0, none⟩), .pointer (some ⟨h + 1 + 1, 0, none⟩), .pointer (some ⟨h + 1 + 1 + 1, 0, none⟩), .int .i64 (y.1 : Int), rowV a C y.1, .pointer (some ⟨h, 0, none⟩), .int .i64 (R : Int), .pointer (some ⟨h, 1, none⟩), .int .i64 (C : Int), .pointer (some ⟨h + 1, 1, none⟩), .int .i64 (K : Int), .int .i64 ((C : Int) + (K : Int)), .agg #[.int .i64 (R : Int), .int .i64 ((C : Int) + (K : Int)), .slice none 0 0], .agg #[.int .i64 (R : Int), .int .i64 (C : Int), .slice a n ca], .func (.func 112) #[] #[.pointer (some ⟨q, 0, none⟩)], .int .i64 (y.1 : Int), rowV a C y.1, undef, undef, undef, undef, undef, undef, undef, undef, undef, undef, undef, undef, undef], defers := [] }) ?assign ?body ?done ?stop
  case assign =>
    intro l y W K' hK'
    gi_wp2
    exact hK'
  case body =>
    rintro l pre y W ⟨⟨hr, hz, ⟨vo, ho, hv⟩, hsz⟩, hB⟩ hpl
    have hpos := HB.out.pos (by have := y.2; omega)
    have hLp : 0 < L.length := by rw [HB.out.hL, HB.out.hn]; exact Nat.mul_pos (by have := y.2; omega) hpos.1
    have hMp : 0 < M.length := by rw [HB.out.hM, HB.out.hm]; exact Nat.mul_pos (by have := y.2; omega) hpos.2
    obtain ⟨b1, o1, rfl, XL⟩ := HXL.out hLp
    obtain ⟨b2, o2, rfl, XM⟩ := HXM.out hMp
    have hBw : Below w.heap.size w W := by rw [hh]; exact hB
    have XLW := XL.below hBw
    have i1 : y.1 * C + C ≤ L.length := by rw [HB.out.hL, HB.out.hn]; exact row_in y.2
    have i2 : y.1 * K + K ≤ M.length := by rw [HB.out.hM, HB.out.hm]; exact row_in y.2
    obtain ⟨U, hU⟩ : ∃ U, U = bsF C K L M (pre.map rix) := ⟨_, rfl⟩
    obtain ⟨us, hus⟩ : ∃ U, U = bsGF C K xL xM (pre.map rix) := ⟨_, rfl⟩
    have HUS := Lib.hid (show bsF C K L M ((pre ++ [y]).map rix) = (U ++ (L.drop (y.1 * C)).take C) ++ (M.drop (y.1 * K)).take K by rw [List.map_append, hU]; exact bsF_snoc _ _ _ _ _ _)
    have HUG := Lib.hid (show bsGF C K xL xM ((pre ++ [y]).map rix) = (us ++ (xL.drop (y.1 * C)).take C) ++ (xM.drop (y.1 * K)).take K by rw [List.map_append, hus]; exact bsGF_snoc _ _ _ _ _ _)
    have hul : us.length = U.length := by rw [hU, hus]; exact (bsGF_rows HRL.out HRM.out _).len
    have hUL : U.length ≤ 5000 := by
      have h1 := bsF_len (C := C) (K := K) (L := L) (M := M) (pre.map rix)
      rw [← hU, List.length_map] at h1
      have h2 := Nat.mul_le_mul (show pre.length ≤ 24 by omega) hCK
      omega
    rw [← hU, ← hus] at hv
    clear hU hus
    have hqs : q + 1 ≤ W.heap.size := by omega
    have lenP1 : ((L.drop (y.1 * C)).take C).length = C := by rw [List.length_take, List.length_drop]; omega
    have lenP2 : ((M.drop (y.1 * K)).take K).length = K := by rw [List.length_take, List.length_drop]; omega
    obtain ⟨a5, c5, w5, hr5, hO5, hg5⟩ := appended_rats W 23 (q + 1) vo U us hv hul (by omega) hqs ⟨b1, o1 + y.1 * C * 3, none⟩ C C ((L.drop (y.1 * C)).take C) ((xL.drop (y.1 * C)).take C) lenP1 (by have := (HRL.out.part (y.1 * C) C).len; exact this) (XLW.cells i1) ((HRL.out.part (y.1 * C) C).one) (by omega)
    have hvl := hv.lt
    have hO5l := hO5.lt
    have O5 := ho.keptK (Kept.of_grown hg5) (fun e => own_not3 hv ho e)
    have K5 := ((Kept.of_grown hg5).mono (T := fun j => q + 1 ≤ j ∨ j = h + 1 + 1 + 1) (fun k hk => .inl (hvl k hk).1)).trans ((kept_set w5 (h + 1 + 1 + 1) 2 (.slice a5 (U.length + C) c5)).mono (fun k hk => .inr hk))
    have KO5 := (KeepsOthers.of_grownBy hg5 (fun j o e ho' => by
          obtain ⟨o', ho2, hc'⟩ := rowR_isCells hv j e
          rw [ho'] at ho2; injection ho2 with e1; subst e1; exact hc')).trans (KeepsOthers.setCell w5 ⟨h + 1 + 1 + 1, 2, none⟩ (.slice a5 (U.length + C) c5))
    have V6 := rowV_kept hO5 (kept_set w5 (h + 1 + 1 + 1) 2 (.slice a5 (U.length + C) c5)) (fun k hk e => own_not3 hO5 O5 (by rw [← e]; exact hk))
    obtain ⟨W6, hW6⟩ : ∃ x, x = w5.setCell ⟨h + 1 + 1 + 1, 2, none⟩ (.slice a5 (U.length + C) c5) := ⟨_, rfl⟩
    have O6 := O5.set2 (.slice a5 (U.length + C) c5)
    rw [← hW6] at K5 KO5 V6 O6
    have hq9 := HQ.out
    have R6 := hr.keptK K5 (fun e => by omega)
    have Z6 := hz.keptK K5 (fun e => by omega)
    have B6 : Below h w W6 := below_kept hB K5 (by omega) (fun k hk => by omega)
    have s6 : W.heap.size ≤ W6.heap.size := K5.size
    have hx5 := O5.c2
    have hf5 := O5.f 2
    have AP6 := Lib.hid (show ∀ W' : World, Below W6.heap.size W6 W' → ∃ a8 c8 w8, (appSemR 23 #[.slice a5 (U.length + C) c5, .slice (some ⟨b2, o2 + y.1 * K * 3, none⟩) K K]).run Tryz.prog W' = .ok (.slice a8 (U.length + C + K) c8) w8 ∧ w8.cell? ⟨h + 1 + 1 + 1, 2, none⟩ = some (.slice a5 (U.length + C) c5) ∧ w8.frozen? ⟨h + 1 + 1 + 1, 2, none⟩ = false ∧
        Hid (∀ Wf, Wf = w8.setCell ⟨h + 1 + 1 + 1, 2, none⟩ (.slice a8 (U.length + C + K) c8) → KeepsFrom W4.heap.size W Wf ∧ KpM q W Wf ∧ ((B3 Wf (h + 1) 25 (.int .i64 (R : Int)) (.int .i64 (K : Int)) (.slice (some ⟨b2, o2, none⟩) m cb) ∧ B3 Wf (h + 1 + 1) 25 (.int .i64 0) (.int .i64 0) (.slice none 0 0) ∧ (∃ vo, B3 Wf (h + 1 + 1 + 1) 25 (.int .i64 (R : Int)) (.int .i64 ((C : Int) + (K : Int))) vo ∧ Wf.ownsRow (q + 1) 34 3 vo (bsF C K L M ((pre ++ [y]).map rix)).length (flat (bsF C K L M ((pre ++ [y]).map rix)) (bsGF C K xL xM ((pre ++ [y]).map rix)))) ∧ q < Wf.heap.size) ∧ Below h w Wf)) from fun W' hW => by
      have V7 := rowV_kept (S := fun _ => False) V6 (Kept.of_below hW) (fun _ _ h => h)
      have s7 := hW.size
      have hBw7 : Below w.heap.size w W' := by rw [hh]; exact B6.trans (hW.mono (by omega))
      have lenU1 : (U ++ (L.drop (y.1 * C)).take C).length = U.length + C := by rw [List.length_append, lenP1]
      obtain ⟨a8, c8, w8, hr8, hO8, hg8⟩ := appended_rats W' 23 (q + 1) (.slice a5 (U.length + C) c5) (U ++ (L.drop (y.1 * C)).take C) (us ++ (xL.drop (y.1 * C)).take C) (by rw [lenU1]; exact V7) (by have := (HRL.out.part (y.1 * C) C).len; rw [List.length_append, List.length_append, this, hul]) (by rw [lenU1]; omega) (by omega) ⟨b2, o2 + y.1 * K * 3, none⟩ K K ((M.drop (y.1 * K)).take K) ((xM.drop (y.1 * K)).take K) lenP2 (by have := (HRM.out.part (y.1 * K) K).len; exact this) ((XM.below hBw7).cells i2) ((HRM.out.part (y.1 * K) K).one) (by omega)
      rw [lenU1] at hr8 hO8
      have hvl7 := V7.lt
      have O7 := O6.below hW
      have O8 := O7.keptK (Kept.of_grown hg8) (fun e => own_not3 V7 O7 e)
      have K8 := ((Kept.of_below (S := fun j => q + 1 ≤ j ∨ j = h + 1 + 1 + 1) hW).trans ((Kept.of_grown hg8).mono (T := fun j => q + 1 ≤ j ∨ j = h + 1 + 1 + 1) (fun k hk => .inl (hvl7 k hk).1))).trans ((kept_set w8 (h + 1 + 1 + 1) 2 (.slice a8 (U.length + C + K) c8)).mono (fun k hk => .inr hk))
      have K9 := K5.trans K8
      have KO8 := ((KeepsOthers.of_grownBy (grown_of_below hW none) (fun j o e => by cases e)).trans (KeepsOthers.of_grownBy hg8 (fun j o e ho' => by
          obtain ⟨o', ho2, hc'⟩ := rowR_isCells V7 j e
          rw [ho'] at ho2; injection ho2 with e1; subst e1; exact hc'))).trans (KeepsOthers.setCell w8 ⟨h + 1 + 1 + 1, 2, none⟩ (.slice a8 (U.length + C + K) c8))
      refine ⟨a8, c8, w8, hr8, O8.c2, O8.f 2, ?_⟩
      rintro Wf rfl
      refine ⟨(KO5.trans KO8).from _, K9.block q hsz (by rintro (e | e) <;> omega), ⟨hr.keptK K9 (by rintro (e | e) <;> omega), hz.keptK K9 (by rintro (e | e) <;> omega), ⟨_, O8.set2 _, ?_⟩, Nat.lt_of_lt_of_le hsz K9.size⟩, below_kept hB K9 (by omega) (fun k hk => by rcases hk with e | e <;> omega)⟩
      rw [HUS.out, HUG.out]
      have e8 : (U ++ (L.drop (y.1 * C)).take C ++ (M.drop (y.1 * K)).take K).length = U.length + C + K := by rw [List.length_append, lenU1, lenP2]
      rw [e8]
      exact rowV_kept hO8 (kept_set w8 (h + 1 + 1 + 1) 2 (.slice a8 (U.length + C + K) c8)) (fun k hk e => own_not3 hO8 O8 (by rw [← e]; exact hk)))
    have HRW := Lib.hid (fun W' (hW : Below W6.heap.size W6 W') => (callsIn_wide (n := 0)).2 ((impl_row (R : Int) K y.1 m (some ⟨b2, o2, none⟩) cb W' (by have := HB.out.hM; omega) hm9 hK (by have := y.2; omega) hcb (by omega)).mono (R' := fun e w' => e = .returned (.slice (some ⟨b2, o2 + y.1 * K * 3, none⟩) K K) ∧ Below W6.heap.size W6 w') (fun e w' ⟨he, hb⟩ => ⟨by rw [he, rowV_in _ _ _ _ hpos.2], hW.trans (hb.mono hW.size)⟩)))
    have y2 := ho.c2
    have HW6 := Lib.hid hW6.symm
    have r0 := R6.c0
    have r1 := R6.c1
    have r2 := R6.c2
    have o62 := O6.c2
    have HO6 := Lib.hid (fun W' (hW : Below W6.heap.size W6 W') => O6.below hW)
    rw [rowV_in _ _ _ _ hpos.1]
    obtain ⟨e1, he1⟩ : ∃ x, x = o1 + y.1 * C * 3 := ⟨_, rfl⟩
    obtain ⟨e2, he2⟩ : ∃ x, x = o2 + y.1 * K * 3 := ⟨_, rfl⟩
    rw [← he1] at hr5 ⊢
    rw [← he2] at AP6 HRW
    clear he1 he2 hW6 O6 R6 Z6 B6 s6 K5 KO5 V6 hO5 hg5 hvl hO5l XL XM XLW hBw hv ho hr hz hB HUS HUG hpl
    gi_wp2
    rw [HW6.out]
    gi_region_with (first
      | ((try refine ⟨trivial, ?_⟩); gi_at_call 75; refine ((HRW.out _ (by first | exact Below.refl _ _ | exact (Below.refl _ _).drew)).inRound l).mono ?_; rintro e' w7 ⟨rfl, b7⟩; have o7 := (HO6.out _ b7).c2; obtain ⟨a8, c8, w8, hr8, hc8, hf8, hfin⟩ := AP6.out w7 b7))
    all_goals gi_wp2
    all_goals exact hfin.out _ rfl
  case done =>
    rintro D' ys' W hD hS ⟨⟨hr, hz, ⟨vo, ho, hv⟩, hsz⟩, hB⟩ hK
    rw [hS] at hv
    have hRA := bsGF_rows (C := C) (K := K) HRL.out HRM.out (List.range R)
    obtain ⟨a9, c9, rfl⟩ := own_form hv
    have KZ := Lib.hid hz
    have KV := Lib.hid hv
    have KB := Lib.hid hB
    have HK := Lib.hid hK
    have HDD := Lib.hid hD
    have KS := Lib.hid hsz
    have p0 := ho.c0
    have p1 := ho.c1
    have p2 := ho.c2
    have z0 := hz.c0
    have z1 := hz.c1
    have z2 := hz.c2
    have x0 := hz.f 0
    have x1 := hz.f 1
    have x2 := hz.f 2
    obtain ⟨N9, hN9⟩ : ∃ N9, N9 = (bsF C K L M (List.range R)).length := ⟨_, rfl⟩
    have HN9 := Lib.hid hN9
    rw [← hN9] at p2
    clear hS hz ho hv hsz hB hK hD hN9
    go_wp2
    have hK' := (((KeepsOthers.setCell W ⟨h + 1 + 1, 0, none⟩ (.int .i64 (R : Int))).trans (KeepsOthers.setCell _ ⟨h + 1 + 1, 1, none⟩ (.int .i64 ((C : Int) + (K : Int))))).trans (KeepsOthers.setCell _ ⟨h + 1 + 1, 2, none⟩ (.slice a9 N9 c9))).same D' _ HK.out rfl
    have D8 := b3_shut (KZ.out.set3 (.int .i64 (R : Int)) (.int .i64 ((C : Int) + (K : Int))) (.slice a9 N9 c9)) hK'
    have hc0 := D8.c0
    have hc1 := D8.c1
    have hc2 := D8.c2
    have hq9 := HQ.out
    have hBl := ((KB.out.setCell (p := ⟨h + 1 + 1, 0, none⟩) (by simp; omega) (.int .i64 (R : Int))).setCell (p := ⟨h + 1 + 1, 1, none⟩) (by simp; omega) (.int .i64 ((C : Int) + (K : Int)))).setCell (p := ⟨h + 1 + 1, 2, none⟩) (by simp; omega) (.slice a9 N9 c9)
    have V9 := rowV_kept KV.out (((kept_set W (h + 1 + 1) 0 (.int .i64 (R : Int))).trans (kept_set _ (h + 1 + 1) 1 (.int .i64 ((C : Int) + (K : Int))))).trans (kept_set _ (h + 1 + 1) 2 (.slice a9 N9 c9))) (fun k hk e => own_not3 KV.out KZ.out (by rw [← e]; exact hk))
    refine ⟨by simp, .inl ⟨_, _, rfl, run_takeDeferred hK', ?_⟩⟩
    refine ⟨.agg #[.int .i64 (R : Int), .int .i64 ((C : Int) + (K : Int)), .slice a9 N9 c9], ?_, ?_⟩
    · simp [results, Tryz.f100, go_sem, hc0, hc1, hc2]
    · have B9 := below_shut hBl (by have := HDD.out; have := KS.out; omega : h ≤ D') (by have := hBl.size; rw [HH.out] at this; exact this)
      have V8 := rowV_kept V9 (Kept.of_grown (grownBy_putObj' _ D' (.deferred none))) (fun k e hk => by
        injection hk with hk
        subst hk
        obtain ⟨o', ho', hc'⟩ := rowR_isCells V9 _ e
        rw [hK'] at ho'; injection ho' with e1; subst e1; cases hc')
      have B8 := B9.mono (show w.heap.size ≤ h by omega)
      obtain rfl := HN9.out
      exact ⟨_, rfl, rats_of_own V8 (hRA.below B8), B8⟩
  case stop =>
    rintro D' c pre W hD _ ⟨hf, hB⟩ hK
    exact hf.elim
end Go.Proofs.YtlepgkkpopjgoaaGreat
namespace Go.Proofs.YtlepgkkpopjgoaaGreat
open Go.RowKit Go.WideShapes Go.ChangeShapes
set_option linter.unusedVariables false
set_option linter.unusedSimpArgs false
attribute [local go_sem] Oper.semAt_some
attribute [local go_sem ↓] app_semR
def svK (n K : Nat) (L M : List Fr) : Int := if svB n K L M then (K : Int) else 0
theorem svK_no {n K : Nat} {L M : List Fr} (h : svB n K L M = false) : svK n K L M = 0 := by unfold svK; rw [h]; rfl
theorem svK_yes {n K : Nat} {L M : List Fr} (h : svB n K L M = true) : svK n K L M = K := by unfold svK; rw [h]; rfl
def svF {α : Type} (C n K : Nat) (T : List α) (l : List Nat) : List α := l.flatMap (fun i => (T.drop (i * C + n)).take K)
theorem svF_snoc {α : Type} (C n K : Nat) (T : List α) (l : List Nat) (i : Nat) : svF C n K T (l ++ [i]) = svF C n K T l ++ (T.drop (i * C + n)).take K := by unfold svF; rw [List.flatMap_append]; simp
theorem svF_range {α : Type} {C n K R : Nat} {d : α} {T : List α} (hT : T.length = R * C) (h0 : 0 < K) (hK : n + K ≤ C) : ∀ i, i ≤ R → svF C n K T (List.range i) = svU C n K d T i
 | 0, _ => by simp [svF, svU]
 | i + 1, hi => by rw [List.range_succ, svF_snoc, svF_range hT h0 hK i (by omega), svU_succ hT (by omega) h0 hK]
theorem svF_len {α : Type} {C n K : Nat} {T : List α} (l : List Nat) : (svF C n K T l).length ≤ l.length * K := by
 induction l with
 | nil => simp [svF]
 | cons j l ih =>
  have e1 : svF C n K T (j :: l) = (T.drop (j * C + n)).take K ++ svF C n K T l := rfl
  rw [e1, List.length_append, List.length_cons, Nat.add_mul, Nat.one_mul, List.length_take]
  omega
theorem svF_len2 {α β : Type} {C n K : Nat} {T : List α} {S : List β} (h : T.length = S.length) (l : List Nat) : (svF C n K T l).length = (svF C n K S l).length := by
 induction l with
 | nil => rfl
 | cons j l ih =>
  have e1 : svF C n K T (j :: l) = (T.drop (j * C + n)).take K ++ svF C n K T l := rfl
  have e2 : svF C n K S (j :: l) = (S.drop (j * C + n)).take K ++ svF C n K S l := rfl
  rw [e1, e2, List.length_append, List.length_append, List.length_take, List.length_take, List.length_drop, List.length_drop, h, ih]
set_option maxRecDepth 100000 in
set_option maxHeartbeats 8000000 in
theorem impl_solveFor (n K N m ca cb : Nat) (a b : Option Addr) (L M : List Fr) (w : World) (hh1 : RatsAt w (.slice a N ca) L) (hh2 : RatsAt w (.slice b m cb) M) (H : SvOk n K N m L M) :
  Calls Tryz.prog 56 #[.agg #[.int .i64 (n : Int), .int .i64 (n : Int), .slice a N ca], .agg #[.int .i64 (n : Int), .int .i64 (K : Int), .slice b m cb]] w fun e w' => ∃ u xs, e = .returned (.tuple #[.agg #[.int .i64 (svN n K L M), .int .i64 (svK n K L M), u], .bool (svB n K L M)]) ∧ OwnV w' w.heap.size u (svR n K L M) xs ∧ Below w.heap.size w w' := by
 have HR1 := Lib.hid hh1
 have HR2 := Lib.hid hh2
 have HS := Lib.hid H
 have hn := H.hn
 have hK := H.hK
 obtain ⟨C2, hC2⟩ : ∃ x, x = n + K := ⟨_, rfl⟩
 have HC2 := Lib.hid hC2
 obtain ⟨T0, hT0⟩ : ∃ T, T = bsU n K L M n := ⟨_, rfl⟩
 obtain ⟨NT, hNT⟩ : ∃ x, x = n * C2 := ⟨_, rfl⟩
 have HNT := Lib.hid hNT
 have HTL := Lib.hid (show T0.length = NT by rw [hT0, hNT, hC2]; exact H.bes.len)
 have HTA := Lib.hid (show T0.all okF = true by rw [hT0]; exact H.bes.all)
 obtain ⟨E, hE⟩ : ∃ E, E = svE n K L M := ⟨_, rfl⟩
 have HEX := Lib.hid (show runE n C2 C2 (startE T0 C2) = E by rw [hE, hT0, hC2]; rfl)
 have HB := Lib.hid (show svB n K L M = (fineG n C2 E.g && stB n E.piv) by rw [hE, hC2]; rfl)
 have HSL := Lib.hid (show svL n K L M = svU C2 n K Fr.zero (tabM n C2 E.g) n by rw [hE, hC2]; rfl)
 have HEL := Lib.hid (show fineG n C2 E.g = true → ElOk n C2 E C2 from fun hf => by rw [hE, hC2] at hf ⊢; exact H.el hf)
 have HBS := Lib.hid (fun W (hW : Below w.heap.size w W) => impl_beside n n K N m ca cb a b L M W (HR1.out.below hW) (HR2.out.below hW) H.bes)
 rw [← hT0] at HBS
 have hcc : ((n : Int) + (K : Int)) = (C2 : Int) := by omega
 rw [hcc] at HBS
 have hC24 : C2 ≤ 24 := by omega
 have hNT9 : NT ≤ 576 := by rw [hNT]; have := Nat.mul_le_mul (show n ≤ 24 by omega) hC24; omega
 have HEM := Lib.hid (fun W u c (hu : RatsAt W (.slice u NT c) T0) => impl_elim n C2 NT c u T0 W hu HTL.out HNT.out (by omega) hC24 (fun k hk => List.all_eq_true.1 HTA.out _ (List.getElem_mem hk)))
 rw [HEX.out] at HEM
 clear hh1 hh2 H hT0 hNT hE hcc hC2
 obtain ⟨h, hh⟩ : ∃ h, w.heap.size = h := ⟨_, rfl⟩
 have HH := Lib.hid hh
 obtain ⟨W0, hW0⟩ : ∃ x, x = ((w.alloc (.cells #[.int .i64 (n : Int), .int .i64 (n : Int), .slice a N ca] 25)).alloc (.cells #[.int .i64 (n : Int), .int .i64 (K : Int), .slice b m cb] 25)).alloc (.cells #[.int .i64 0, .int .i64 0, .slice none 0 0] 25) := ⟨_, rfl⟩
 have D := Lib.hid (show B3 W0 h 25 (.int .i64 (n : Int)) (.int .i64 (n : Int)) (.slice a N ca) by rw [hW0, ← hh]; exact ((B3.new _ _ _ _ _).alloc _).alloc _)
 have EB := Lib.hid (show B3 W0 (h + 1) 25 (.int .i64 (n : Int)) (.int .i64 (K : Int)) (.slice b m cb) by rw [hW0, ← hh]; exact b3_at ((B3.new _ _ _ _ _).alloc _) (by simp))
 have Z := Lib.hid (show B3 W0 (h + 1 + 1) 25 (.int .i64 0) (.int .i64 0) (.slice none 0 0) by rw [hW0, ← hh]; exact b3_at (B3.new _ _ _ _ _) (by simp))
 have B0 := Lib.hid (show Below w.heap.size w W0 by rw [hW0]; exact (((Below.refl _ _).alloc (Nat.le_refl _) _).alloc (by simp) _).alloc (by simp; omega) _)
 have HW := Lib.hid hW0.symm
 clear hW0
 have d0 := D.out.c0
 have d1 := D.out.c1
 have d2 := D.out.c2
 have e0 := EB.out.c0
 have e1 := EB.out.c1
 have e2 := EB.out.c2
 refine (callsIn_wide (n := 3)).1 ?_
 refine callsIn_of_wp_marks Tryz.func56 rfl trivial ?_ rfl
 simp only [Tryz.ntmps56, List.size_toArray, List.length_cons, List.length_nil, Nat.reduceAdd, Nat.reduceSub, Array.replicate_succ, Array.replicate_zero, List.push_toArray, List.append_toArray, List.nil_append, List.cons_append]
 refine wpIn_wide.2 ?_
 go_wp2_with (rw [HW.out])
 refine (HBS.out W0 B0.out).mono ?_
 rintro ee w1 ⟨u, rfl, hu, b1⟩
 obtain ⟨au, cu, hau, hcu1, hcu2⟩ := ratsAt_form hu
 rw [HTL.out] at hau
 subst hau
 replace D := Lib.hid (D.out.below b1)
 replace EB := Lib.hid (EB.out.below b1)
 replace Z := Lib.hid (Z.out.below b1)
 replace B0 := Lib.hid (B0.out.trans (b1.mono B0.out.size))
 have HX := Lib.hid (HEM.out w1 au cu hu)
 clear b1 hu HBS HEM d0 d1 d2 e0 e1 e2 hcu1 hcu2
 go_wp2_with fail
 refine (HX.out).mono ?_
 rintro ee w4 ⟨p, rfl, hp, b4⟩
 replace D := Lib.hid (D.out.below b4)
 replace EB := Lib.hid (EB.out.below b4)
 replace Z := Lib.hid (Z.out.below b4)
 have hw1 : w.heap.size ≤ w1.heap.size := B0.out.size
 replace B0 := Lib.hid (B0.out.trans (b4.mono B0.out.size))
 have hw4 : w1.heap.size ≤ w4.heap.size := b4.size
 clear b4 HX
 have d1 := D.out.c1
 cases hq : fineG n C2 E.g with
 | false =>
  have HSB := Lib.hid (show svB n K L M = false by rw [HB.out, hq]; rfl)
  clear hp
  have z0 := Z.out.c0
  have z1 := Z.out.c1
  have z2 := Z.out.c2
  have x0 := Z.out.f 0
  have x1 := Z.out.f 1
  have x2 := Z.out.f 2
  have hle : w.heap.size ≤ h + 1 + 1 := by omega
  have V9 := Lib.hid (OwnV.set3_b3 (OwnV.nil _ w.heap.size) Z.out (by decide) (by decide) (.int .i64 0) (.int .i64 0) (.slice none 0 0))
  have B9 := Lib.hid (((B0.out.setCell (p := ⟨h + 1 + 1, 0, none⟩) hle (.int .i64 0)).setCell (p := ⟨h + 1 + 1, 1, none⟩) hle (.int .i64 0)).setCell (p := ⟨h + 1 + 1, 2, none⟩) hle (.slice none 0 0))
  have D8 := Z.out.set3 (.int .i64 0) (.int .i64 0) (.slice none 0 0)
  have hc0 := D8.c0; have hc1 := D8.c1; have hc2 := D8.c2
  clear D8
  go_wp2_with fail
  refine ⟨.tuple #[.agg #[.int .i64 0, .int .i64 0, .slice none 0 0], .bool false], ?_, ?_⟩
  ·simp [results, Tryz.f56, go_sem, hc0, hc1, hc2]
  ·rw [(sv_no HSB.out).1, (sv_no HSB.out).2, svK_no HSB.out, HSB.out]
   first | exact ⟨_, rfl, ⟨_, V9.out⟩, B9.out⟩ | exact ⟨_, _, rfl, V9.out, B9.out⟩
 | true =>
  obtain ⟨g, pv, fv, xs, ps, hP⟩ := hp hq
  have P4 := Lib.hid hP
  have EK := Lib.hid (HEL.out hq)
  have HST := Lib.hid (impl_starts p NT NT w1.heap.size n C2 n (some ⟨g, 0, none⟩) E pv fv xs ps w4 hP (by omega) (by have := EK.out.len; omega))
  clear hP hp
  cases hst : stB n E.piv with
  | false =>
   have HSB := Lib.hid (show svB n K L M = false by rw [HB.out, hq, hst]; rfl)
   rw [hst] at HST
   go_wp2_with fail
   refine (HST.out).mono ?_
   rintro ee w5 ⟨rfl, b5⟩
   replace Z := Lib.hid (Z.out.below b5)
   replace B0 := Lib.hid (B0.out.trans (b5.mono B0.out.size))
   clear b5 d1 D EB P4 HST
   have z0 := Z.out.c0
   have z1 := Z.out.c1
   have z2 := Z.out.c2
   have x0 := Z.out.f 0
   have x1 := Z.out.f 1
   have x2 := Z.out.f 2
   have hle : w.heap.size ≤ h + 1 + 1 := by omega
   have V9 := Lib.hid (OwnV.set3_b3 (OwnV.nil _ w.heap.size) Z.out (by decide) (by decide) (.int .i64 0) (.int .i64 0) (.slice none 0 0))
   have B9 := Lib.hid (((B0.out.setCell (p := ⟨h + 1 + 1, 0, none⟩) hle (.int .i64 0)).setCell (p := ⟨h + 1 + 1, 1, none⟩) hle (.int .i64 0)).setCell (p := ⟨h + 1 + 1, 2, none⟩) hle (.slice none 0 0))
   have D8 := Z.out.set3 (.int .i64 0) (.int .i64 0) (.slice none 0 0)
   have hc0 := D8.c0; have hc1 := D8.c1; have hc2 := D8.c2
   clear D8
   go_wp2_with fail
   refine ⟨.tuple #[.agg #[.int .i64 0, .int .i64 0, .slice none 0 0], .bool false], ?_, ?_⟩
   ·simp [results, Tryz.f56, go_sem, hc0, hc1, hc2]
   ·rw [(sv_no HSB.out).1, (sv_no HSB.out).2, svK_no HSB.out, HSB.out]
    first | exact ⟨_, rfl, ⟨_, V9.out⟩, B9.out⟩ | exact ⟨_, _, rfl, V9.out, B9.out⟩
  | true =>
   have HSB := Lib.hid (show svB n K L M = true by rw [HB.out, hq, hst]; rfl)
   rw [hst] at HST
   go_wp2_with fail
   refine (HST.out).mono ?_
   rintro ee w5 ⟨rfl, b5⟩
   replace D := Lib.hid (D.out.below b5)
   replace EB := Lib.hid (EB.out.below b5)
   replace Z := Lib.hid (Z.out.below b5)
   replace B0 := Lib.hid (B0.out.trans (b5.mono B0.out.size))
   replace P4 := Lib.hid (P4.out.below b5)
   have hw5 : w1.heap.size ≤ w5.heap.size := Nat.le_trans hw4 b5.size
   clear b5 HST d1
   obtain ⟨s, hs⟩ : ∃ s, s = w5.heap.size := ⟨_, rfl⟩
   obtain ⟨W5, hW5⟩ : ∃ x, x = w5.alloc (.cells #[.int .i64 (n : Int), .int .i64 (K : Int), .slice none 0 0] 25) := ⟨_, rfl⟩
   have bw := (show Below w5.heap.size w5 W5 by rw [hW5]; exact (Below.refl _ _).alloc (Nat.le_refl _) _)
   have O5 := Lib.hid (show B3 W5 s 25 (.int .i64 (n : Int)) (.int .i64 (K : Int)) (.slice none 0 0) by rw [hW5, hs]; exact B3.new _ _ _ _ _)
   have D5 := Lib.hid (D.out.below bw)
   have Z5 := Lib.hid (Z.out.below bw)
   have P5 := Lib.hid (P4.out.below bw)
   have B5' := Lib.hid (B0.out.trans (bw.mono B0.out.size))
   have hs5 : W5.heap.size = s + 1 := by rw [hW5, hs]; simp
   have HW5 := Lib.hid hW5.symm
   have HSs := Lib.hid hs.symm
   have d1 := D.out.c1
   have e1 := EB.out.c1
   have PA := P4.out.D.alloc (.cells #[.int .i64 (n : Int), .int .i64 (K : Int), .slice none 0 0] 25)
   have p0 := PA.c0
   have p1 := PA.c1
   have p2 := PA.c2
   clear hW5 bw PA hs
   go_wp2_with (go_at_call 70; refine ((callsIn_wide (n := 3)).1 (rows_in Fence.wide _ trivial rfl _ _ _ _)).mono ?_; rintro e w' ⟨rfl, rfl⟩)
   rw [HW5.out, HSs.out]
   try simp only [HSs.out]
   obtain ⟨q, hq'⟩ : ∃ q, q = s + 1 := ⟨_, rfl⟩
   obtain ⟨W6, hW6⟩ : ∃ x, x = W5.alloc (.cells #[.int .i64 (n : Int), .int .i64 (C2 : Int), .slice (some ⟨g, 0, none⟩) NT NT] 25) := ⟨_, rfl⟩
   have bw := (show Below W5.heap.size W5 W6 by rw [hW6]; exact (Below.refl _ _).alloc (Nat.le_refl _) _)
   have QB := Lib.hid (show B3 W6 q 25 (.int .i64 (n : Int)) (.int .i64 (C2 : Int)) (.slice (some ⟨g, 0, none⟩) NT NT) by rw [hW6, hq', ← hs5]; exact B3.new _ _ _ _ _)
   have O6 := Lib.hid (O5.out.below bw)
   have D6 := Lib.hid (D5.out.below bw)
   have Z6 := Lib.hid (Z5.out.below bw)
   obtain ⟨T, hT⟩ : ∃ T, T = tabM n C2 E.g := ⟨_, rfl⟩
   have S6 := Lib.hid (show OwnV W6 w1.heap.size (.slice (some ⟨g, 0, none⟩) NT NT) T xs by rw [hT]; exact P5.out.S.V.below bw)
   have SL6 := Lib.hid (show ∀ k, OnV (.slice (some ⟨g, 0, none⟩) NT NT) xs k → k < q from fun k hk => by have := (P5.out.S.V.lt k hk).2; omega)
   have B6 := Lib.hid (show Below h w W6 from (B5'.out.trans (bw.mono B5'.out.size)).mono (by omega))
   have hsq : q < W6.heap.size := QB.out.lt
   have HQ := Lib.hid hq'
   have hsh : h + 1 + 1 < s := by have h9 := Z.out.lt; have := HSs.out; omega
   have hw1q : w1.heap.size ≤ q := by have := HSs.out; omega
   rw [← hT] at HSL
   have HTn := Lib.hid (show T.length = n * C2 by rw [hT, tabM_len])
   have hxl := S6.out.len
   rw [show s + 1 = q from hq'.symm, ← hW6]
   clear hW6 hq' bw O5 D5 Z5 P5 B5' P4 D EB Z B0 d1 e1 p0 p1 p2 hT HW5
   refine (wpIn_wide (n := 3)).1 ?_
   refine wpIn_rangeFunc_ownG rfl (by omega) (gf := 112) (lb := #[.pointer (some ⟨q, 0, none⟩)]) rfl trivial (enters_of Tryz.func112 (by kernel_rfl) rfl)
    (rows_stops q n C2 NT _ NT (by omega) (some ⟨g, 0, none⟩) (by omega) hC24 HNT.out (Nat.le_refl _) (by omega) W6 QB.out) (fun h k => KpM.trans h k) (KpM.putObj hsq) (Below.refl _ _) (fun _ => rfl)
    (fun pre W => (B3 W h 25 (.int .i64 (n : Int)) (.int .i64 (n : Int)) (.slice a N ca) ∧ B3 W (h + 1 + 1) 25 (.int .i64 0) (.int .i64 0) (.slice none 0 0) ∧ (∃ vo, B3 W s 25 (.int .i64 (n : Int)) (.int .i64 (K : Int)) vo ∧ W.ownsRow (q + 1) 34 3 vo (svF C2 n K T (pre.map rix)).length (flat (svF C2 n K T (pre.map rix)) (svF C2 n K xs (pre.map rix)))) ∧ OwnV W w1.heap.size (.slice (some ⟨g, 0, none⟩) NT NT) T xs ∧ q < W.heap.size) ∧ Below h w W)
    (fun c pre W => (False) ∧ Below h w W)
    (OwnFrom.and (Own.from (fun s' A B row hs hg hr => ⟨b3_own _ _ _ _ _ s' A B row hs.1 hg hr, b3_own _ _ _ _ _ s' A B row hs.2.1 hg hr, sha_own _ _ _ _ _ (fun s : List (RowA n) => (svF C2 n K T (s.map rix)).length) (fun s : List (RowA n) => flat (svF C2 n K T (s.map rix)) (svF C2 n K xs (s.map rix))) s' A B row hs.2.2.1 hg hr, hs.2.2.2.1.turn hg hr, Nat.lt_of_lt_of_le hs.2.2.2.2 hg.size⟩) _) (ownFrom_below (by rw [hh]; exact Nat.le_refl _) (by have := HQ.out; omega)))
    (fun c => OwnFrom.and (Own.from (fun s' A B row hs hg hr => hs) _) (ownFrom_below (by rw [hh]; exact Nat.le_refl _) (by have := HQ.out; omega)))
    ⟨⟨D6.out, Z6.out, ⟨_, O6.out, World.ownsRow_nil _ _ _ _⟩, S6.out, hsq⟩, B6.out⟩
    (fun y => { tmps := #[.agg #[.int .i64 (n : Int), .int .i64 (n : Int), .slice a N ca], .agg #[.int .i64 (n : Int), .int .i64 (K : Int), .slice b m cb], .pointer (some ⟨h, 0, none⟩), .pointer (some ⟨h + 1, 0, none⟩), .pointer (some ⟨h + 1 + 1, 0, none⟩), .bool false, .pointer (some ⟨p, 0, none⟩), .bool true, .pointer (some ⟨s, 0, none⟩), undef, rowV (some ⟨g, 0, none⟩) C2 y.1, .tuple #[.pointer (some ⟨p, 0, none⟩), .bool true], .agg #[.int .i64 (n : Int), .int .i64 (n : Int), .slice a N ca], .agg #[.int .i64 (n : Int), .int .i64 (K : Int), .slice b m cb], .agg #[.int .i64 (n : Int), .int .i64 (C2 : Int), .slice au NT cu], .tuple #[.pointer (some ⟨p, 0, none⟩), .bool true], .pointer (some ⟨p, 0, none⟩), .bool true, .bool true, .bool false, .bool false, .pointer (some ⟨p, 0, none⟩), .pointer (some ⟨h, 1, none⟩), .int .i64 (n : Int), .bool true, .bool false, .bool false, undef, .pointer (some ⟨h, 1, none⟩), .int .i64 (n : Int), .pointer (some ⟨h + 1, 1, none⟩), .int .i64 (K : Int), .agg #[.int .i64 (n : Int), .int .i64 (K : Int), .slice none 0 0], .pointer (some ⟨p, 0, none⟩), .pointer (some ⟨p, 0, none⟩), .pointer (some ⟨p, 0, none⟩), .agg #[.int .i64 (n : Int), .int .i64 (C2 : Int), .slice (some ⟨g, 0, none⟩) NT NT], .func (.func 112) #[] #[.pointer (some ⟨q, 0, none⟩)], .int .i64 (y.1 : Int), rowV (some ⟨g, 0, none⟩) C2 y.1, undef, undef, undef, undef, undef, undef, undef, undef, undef], defers := [] }) ?assign ?body ?done ?stop
   case assign =>
    intro l y W K' hK'
    gi_wp2
    exact hK'
   case body =>
    rintro l pre y W ⟨⟨hd, hz, ⟨vo, ho, hv⟩, hS, hsz⟩, hB⟩ hpl
    have hK0 : 0 < K := HS.out.pos (by have := y.2; omega)
    have hc2 := HC2.out
    have i1 : y.1 * C2 + C2 ≤ T.length := by rw [HTn.out]; exact row_in y.2
    obtain ⟨U, hU⟩ : ∃ U, U = svF C2 n K T (pre.map rix) := ⟨_, rfl⟩
    obtain ⟨us, hus⟩ : ∃ U, U = svF C2 n K xs (pre.map rix) := ⟨_, rfl⟩
    have HUS := Lib.hid (show svF C2 n K T ((pre ++ [y]).map rix) = U ++ (T.drop (y.1 * C2 + n)).take K by rw [List.map_append, hU]; exact svF_snoc _ _ _ _ _ _)
    have HUG := Lib.hid (show svF C2 n K xs ((pre ++ [y]).map rix) = us ++ (xs.drop (y.1 * C2 + n)).take K by rw [List.map_append, hus]; exact svF_snoc _ _ _ _ _ _)
    have hul : us.length = U.length := by rw [hU, hus]; exact svF_len2 hxl _
    have hUL : U.length ≤ 5000 := by
     have h1 := svF_len (C := C2) (n := n) (K := K) (T := T) (pre.map rix)
     rw [← hU, List.length_map] at h1
     have h2 := Nat.mul_le_mul (show pre.length ≤ 12 by omega) hK
     omega
    rw [← hU, ← hus] at hv
    clear hU hus
    have hqs : q + 1 ≤ W.heap.size := by omega
    have lenP : ((T.drop (y.1 * C2 + n)).take K).length = K := by rw [List.length_take, List.length_drop]; omega
    have hq9 := HQ.out
    obtain ⟨l9, hl9⟩ : ∃ x, x = 0 + y.1 * C2 * 3 := ⟨_, rfl⟩
    obtain ⟨o3, ho3⟩ : ∃ x, x = l9 + n * 3 := ⟨_, rfl⟩
    have HO3 : (⟨g, o3, none⟩ : Addr) = ⟨g, (y.1 * C2 + n) * 3, none⟩ := by rw [ho3, hl9]; congr 1; omega
    have AP := Lib.hid (show ∃ a8 c8 w8, (appSemR 23 #[vo, .slice (some ⟨g, o3, none⟩) K K]).run Tryz.prog W.drew = .ok (.slice a8 (U.length + K) c8) w8 ∧ w8.cell? ⟨s, 2, none⟩ = some vo ∧ w8.frozen? ⟨s, 2, none⟩ = false ∧
      Hid (∀ Wf, Wf = w8.setCell ⟨s, 2, none⟩ (.slice a8 (U.length + K) c8) → KeepsFrom W6.heap.size W Wf ∧ KpM q W Wf ∧ ((B3 Wf h 25 (.int .i64 (n : Int)) (.int .i64 (n : Int)) (.slice a N ca) ∧ B3 Wf (h + 1 + 1) 25 (.int .i64 0) (.int .i64 0) (.slice none 0 0) ∧ (∃ vo, B3 Wf s 25 (.int .i64 (n : Int)) (.int .i64 (K : Int)) vo ∧ Wf.ownsRow (q + 1) 34 3 vo (svF C2 n K T ((pre ++ [y]).map rix)).length (flat (svF C2 n K T ((pre ++ [y]).map rix)) (svF C2 n K xs ((pre ++ [y]).map rix)))) ∧ OwnV Wf w1.heap.size (.slice (some ⟨g, 0, none⟩) NT NT) T xs ∧ q < Wf.heap.size) ∧ Below h w Wf)) by
     have hW : Below W.heap.size W W.drew := (Below.refl _ _).drew
     have V7 := rowV_kept (S := fun _ => False) hv (Kept.of_below hW) (fun _ _ h => h)
     obtain ⟨a8, c8, w8, hr8, hO8, hg8⟩ := appended_rats W.drew 23 (q + 1) vo U us V7 hul (by omega) hqs ⟨g, o3, none⟩ K K ((T.drop (y.1 * C2 + n)).take K) ((xs.drop (y.1 * C2 + n)).take K) lenP (by simp [hxl]) (by rw [HO3]; exact part_cells hS.drew (by omega)) (part_one hS (by omega)) (by omega)
     have hvl7 := V7.lt
     have O7 := ho.drew
     have O8 := O7.keptK (Kept.of_grown hg8) (fun e => own_not3 V7 O7 e)
     have K9 := ((Kept.of_below (S := fun j => q + 1 ≤ j ∨ j = s) hW).trans ((Kept.of_grown hg8).mono (T := fun j => q + 1 ≤ j ∨ j = s) (fun k hk => .inl (hvl7 k hk).1))).trans ((kept_set w8 s 2 (.slice a8 (U.length + K) c8)).mono (fun k hk => .inr hk))
     have KO8 := ((KeepsOthers.of_grownBy (grown_of_below hW none) (fun j o e => by cases e)).trans (KeepsOthers.of_grownBy hg8 (fun j o e ho' => by
       obtain ⟨o', ho2, hc'⟩ := rowR_isCells V7 j e
       rw [ho'] at ho2; injection ho2 with e1; subst e1; exact hc'))).trans (KeepsOthers.setCell w8 ⟨s, 2, none⟩ (.slice a8 (U.length + K) c8))
     refine ⟨a8, c8, w8, hr8, O8.c2, O8.f 2, ?_⟩
     rintro Wf rfl
     refine ⟨KO8.from _, K9.block q hsz (by rintro (e | e) <;> omega), ⟨hd.keptK K9 (by rintro (e | e) <;> omega), hz.keptK K9 (by rintro (e | e) <;> omega), ⟨_, O8.set2 _, ?_⟩, hS.kept K9 (fun k hk => by
      have h9 := SL6.out k hk
      have hn9 : k ≠ s := fun e => by subst e; exact hS.not_b3 ho (by decide) (by decide) hk
      rintro (e | e) <;> omega), Nat.lt_of_lt_of_le hsz K9.size⟩, below_kept hB K9 (by omega) (fun k hk => by rcases hk with e | e <;> omega)⟩
     rw [HUS.out, HUG.out]
     have e8 : (U ++ (T.drop (y.1 * C2 + n)).take K).length = U.length + K := by rw [List.length_append, lenP]
     rw [e8]
     exact rowV_kept hO8 (kept_set w8 s 2 (.slice a8 (U.length + K) c8)) (fun k hk e => own_not3 hO8 O8 (by rw [← e]; exact hk)))
    obtain ⟨a8, c8, w8, hr8, hc8, hf8, hfin⟩ := AP.out
    have y2 := ho.c2
    have y3 := ho.f 2
    have d1 := hd.c1
    have hsub : C2 - n = K := by omega
    have hcn : ¬ C2 = n := by omega
    have hnC1 : (n : Int) ≤ (C2 : Int) := by omega
    rw [rowV_in _ _ _ _ (show 0 < C2 by omega), ← hl9]
    replace ho3 := ho3.symm
    clear hl9 HO3 AP hv ho hd hz hS hB HUS HUG hpl hc2
    gi_wp2
    gi_region
    all_goals gi_wp2
    all_goals exact hfin.out _ rfl
   case done =>
    rintro D' ys' W hD hS ⟨⟨hd, hz, ⟨vo, ho, hv⟩, hSV, hsz⟩, hB⟩ hK
    rw [hS] at hv
    have KZ := Lib.hid hz
    have KB := Lib.hid hB
    have HK := Lib.hid hK
    have HDD := Lib.hid hD
    have KS := Lib.hid hsz
    have hq9 := HQ.out
    have OV : ∃ us, OwnV W w1.heap.size vo (svL n K L M) us := by
     have hv1 := World.ownsRow.mono hv (show w1.heap.size ≤ q + 1 by omega)
     by_cases hn0 : n = 0
     ·subst hn0
      have e1 : svL 0 K L M = [] := by rw [HSL.out]; exact List.eq_nil_of_length_eq_zero (by rw [svU_len, Nat.zero_mul])
      rw [e1]
      exact ⟨[], rfl, hv1, fun i h => by simp at h, fun i _ h => by simp at h⟩
     ·have hK0 : 0 < K := HS.out.pos (by omega)
      have hc2 := HC2.out
      rw [svF_range (d := Fr.zero) HTn.out hK0 (by omega) n (Nat.le_refl _), svF_range (d := noV) (show xs.length = n * C2 by rw [hxl, HTn.out]) hK0 (by omega) n (Nat.le_refl _), svU_len] at hv1
      rw [HSL.out]
      exact ⟨_, OwnV.parts hSV HTn.out hK0 (by omega) hv1⟩
    obtain ⟨us, OV⟩ := OV
    obtain ⟨P9, hP9⟩ : ∃ x, x = svL n K L M := ⟨_, rfl⟩
    rw [← hP9] at OV
    have HP9 := Lib.hid hP9
    obtain ⟨a9, c9, rfl⟩ := OV.slice
    have KV := Lib.hid OV
    have p0 := ho.c0
    have p1 := ho.c1
    have p2 := ho.c2
    have z0 := hz.c0
    have z1 := hz.c1
    have z2 := hz.c2
    have x0 := hz.f 0
    have x1 := hz.f 1
    have x2 := hz.f 2
    clear hS hz ho hv hsz hB hK hD hP9 OV hSV hd
    go_wp2
    have hK' := (((KeepsOthers.setCell W ⟨h + 1 + 1, 0, none⟩ (.int .i64 (n : Int))).trans (KeepsOthers.setCell _ ⟨h + 1 + 1, 1, none⟩ (.int .i64 (K : Int)))).trans (KeepsOthers.setCell _ ⟨h + 1 + 1, 2, none⟩ (.slice a9 P9.length c9))).same D' _ HK.out rfl
    have D8 := b3_shut (KZ.out.set3 (.int .i64 (n : Int)) (.int .i64 (K : Int)) (.slice a9 P9.length c9)) hK'
    have hc0 := D8.c0
    have hc1 := D8.c1
    have hc2 := D8.c2
    have hBl := ((KB.out.setCell (p := ⟨h + 1 + 1, 0, none⟩) (by simp; omega) (.int .i64 (n : Int))).setCell (p := ⟨h + 1 + 1, 1, none⟩) (by simp; omega) (.int .i64 (K : Int))).setCell (p := ⟨h + 1 + 1, 2, none⟩) (by simp; omega) (.slice a9 P9.length c9)
    have V9 := ownV_shut (KV.out.set3_b3 KZ.out (by decide) (by decide) (.int .i64 (n : Int)) (.int .i64 (K : Int)) (.slice a9 P9.length c9)) hK'
    refine ⟨by simp, .inl ⟨_, _, rfl, run_takeDeferred hK', ?_⟩⟩
    refine ⟨.tuple #[.agg #[.int .i64 (n : Int), .int .i64 (K : Int), .slice a9 P9.length c9], .bool true], ?_, ?_⟩
    ·simp [results, Tryz.f56, go_sem, hc0, hc1, hc2]
    ·have B9 := below_shut hBl (by have := HDD.out; have := KS.out; omega : h ≤ D') (by have := hBl.size; omega)
     have B8 := B9.mono (show w.heap.size ≤ h by omega)
     have V8 := V9.base (B' := w.heap.size) (by omega)
     rw [(sv_yes HSB.out).1, (sv_yes HSB.out).2, svK_yes HSB.out, HSB.out, ← HP9.out]
     first | exact ⟨_, rfl, ⟨_, V8⟩, B8⟩ | exact ⟨_, _, rfl, V8, B8⟩
   case stop =>
    rintro D' c pre W hD _ ⟨hf, hB⟩ hK
    exact hf.elim
end Go.Proofs.YtlepgkkpopjgoaaGreat
namespace Go.Proofs.YtlepgkkpopjgoaaGreat
open Go.RowKit Go.WideShapes Go.ChangeShapes
set_option linter.unusedVariables false
set_option linter.unusedSimpArgs false
def ssOk (r c : Int) (L V : List Fr) : Bool := ivOk r c L && (vecB ratOk V && decide ((V.length : Int) = r))
def ssB (r c : Int) (L V : List Fr) : Bool := ssOk r c L V && svB r.toNat 1 L V
def ssR (r c : Int) (L V : List Fr) : List Fr := if ssOk r c L V then svR r.toNat 1 L V else []
theorem ss_no {r c : Int} {L V : List Fr} (h : ssOk r c L V = false) : ssR r c L V = [] ∧ ssB r c L V = false := by unfold ssR ssB; rw [h]; exact ⟨rfl, rfl⟩
theorem ss_yes {r c : Int} {L V : List Fr} (h : ssOk r c L V = true) : ssR r c L V = svR r.toNat 1 L V ∧ ssB r c L V = svB r.toNat 1 L V := by unfold ssR ssB; rw [h]; exact ⟨rfl, rfl⟩
theorem vec_all {V : List Fr} (h : vecB ratOk V = true) : V.all okF = true := by
 unfold vecB at h
 rw [Bool.and_eq_true] at h
 exact h.2
theorem iv_ok2 {r c : Int} {L : List Fr} (h : ivOk r c L = true) : ∃ R : Nat, r = R ∧ c = R ∧ R ≤ 12 ∧ L.length = R * R ∧ L.all okF = true := by
 unfold ivOk at h
 simp only [Bool.and_eq_true, decide_eq_true_eq] at h
 obtain ⟨R, C, rfl, rfl, hR, hC, hLn, hRC, hE⟩ := matB_parts h.1
 obtain rfl : R = C := by omega
 exact ⟨R, rfl, rfl, by omega, hLn, all_okF hE⟩
set_option maxRecDepth 100000 in
set_option maxHeartbeats 2000000 in
theorem spec_solveM (r c : Int) (v : Value) (L : List Fr) (u : Value) (V : List Fr) (w : World) (h : RatsAt w v L) (h' : RatsAt w u V) :
  Calls Tryz.prog 43 #[.agg #[.int .i64 r, .int .i64 c, v], u] w fun e w' => ∃ x xs, e = .returned (.tuple #[x, .bool (ssB r c L V)]) ∧ OwnV w' w.heap.size x (ssR r c L V) xs ∧ Below w.heap.size w w' := by
 have HR := Lib.hid h
 have HV := Lib.hid h'
 obtain ⟨a, cap, rfl, hc1, hc2⟩ := ratsAt_form h
 obtain ⟨b, cv, rfl, hc1', hc2'⟩ := ratsAt_form h'
 clear h h'
 obtain ⟨n, hnn⟩ : ∃ n, L.length = n := ⟨_, rfl⟩
 obtain ⟨m, hmm⟩ : ∃ n, V.length = n := ⟨_, rfl⟩
 rw [hnn] at HR hc1 ⊢
 rw [hmm] at HV hc1' ⊢
 have HN := Lib.hid hnn
 have HM := Lib.hid hmm
 clear hnn hmm
 cases q0 : matB ratOk r c L with
 | false =>
  have HDO := Lib.hid (show ssOk r c L V = false by unfold ssOk ivOk; rw [q0]; rfl)
  obtain ⟨W0, hW0⟩ : ∃ x, x = w.alloc (.cells #[.int .i64 r, .int .i64 c, .slice a n cap] 25) := ⟨_, rfl⟩
  have D := Lib.hid (show B3 W0 w.heap.size 25 (.int .i64 r) (.int .i64 c) (.slice a n cap) by rw [hW0]; exact B3.new _ _ _ _ _)
  have B0 := Lib.hid (show Below w.heap.size w W0 by rw [hW0]; exact (Below.refl _ _).alloc (Nat.le_refl _) _)
  have HW := Lib.hid hW0.symm
  clear hW0
  have d0 := D.out.c0
  have d1 := D.out.c1
  have d2 := D.out.c2
  go_enter Tryz.func43, Tryz.ntmps43
  go_wp2_with (rw [HW.out])
  have T := spec_matrixOk ratOk (fun b v zs d ds w h => spec_ratOk b v zs d ds w h) r c _ L _ (HR.out.below B0.out)
  rw [q0] at T
  refine T.mono ?_
  rintro e w1 ⟨rfl, b1⟩
  replace D := Lib.hid (D.out.below b1)
  replace B0 := Lib.hid (B0.out.trans (b1.mono B0.out.size))
  clear b1 T d0 d1 d2
  have d0 := D.out.c0
  have d1 := D.out.c1
  have d2 := D.out.c2
  go_wp2_with fail
  exact bodyPost_ret (v := .tuple #[.slice none 0 0, .bool false]) (by simp [results, Tryz.results43, go_sem]) rfl (by rw [(ss_no HDO.out).1, (ss_no HDO.out).2]; exact ⟨_, _, rfl, OwnV.nil _ _, B0.out⟩)
 | true =>
 cases q1 : vecB ratOk V with
 | false =>
  have HDO := Lib.hid (show ssOk r c L V = false by unfold ssOk; rw [q1]; simp)
  obtain ⟨W0, hW0⟩ : ∃ x, x = w.alloc (.cells #[.int .i64 r, .int .i64 c, .slice a n cap] 25) := ⟨_, rfl⟩
  have D := Lib.hid (show B3 W0 w.heap.size 25 (.int .i64 r) (.int .i64 c) (.slice a n cap) by rw [hW0]; exact B3.new _ _ _ _ _)
  have B0 := Lib.hid (show Below w.heap.size w W0 by rw [hW0]; exact (Below.refl _ _).alloc (Nat.le_refl _) _)
  have HW := Lib.hid hW0.symm
  clear hW0
  have d0 := D.out.c0
  have d1 := D.out.c1
  have d2 := D.out.c2
  go_enter Tryz.func43, Tryz.ntmps43
  go_wp2_with (rw [HW.out])
  have T := spec_matrixOk ratOk (fun b v zs d ds w h => spec_ratOk b v zs d ds w h) r c _ L _ (HR.out.below B0.out)
  rw [q0] at T
  refine T.mono ?_
  rintro e w1 ⟨rfl, b1⟩
  replace D := Lib.hid (D.out.below b1)
  replace B0 := Lib.hid (B0.out.trans (b1.mono B0.out.size))
  clear b1 T d0 d1 d2
  have d0 := D.out.c0
  have d1 := D.out.c1
  have d2 := D.out.c2
  go_wp2_with fail
  have T := spec_isV _ V _ (HV.out.below B0.out)
  rw [q1] at T
  refine T.mono ?_
  rintro e w1 ⟨rfl, b1⟩
  replace D := Lib.hid (D.out.below b1)
  replace B0 := Lib.hid (B0.out.trans (b1.mono B0.out.size))
  clear b1 T d0 d1 d2
  have d0 := D.out.c0
  have d1 := D.out.c1
  have d2 := D.out.c2
  go_wp2_with fail
  exact bodyPost_ret (v := .tuple #[.slice none 0 0, .bool false]) (by simp [results, Tryz.results43, go_sem]) rfl (by rw [(ss_no HDO.out).1, (ss_no HDO.out).2]; exact ⟨_, _, rfl, OwnV.nil _ _, B0.out⟩)
 | true =>
 by_cases hne : r = c
 case neg =>
  have HDO := Lib.hid (show ssOk r c L V = false by unfold ssOk ivOk; rw [decide_eq_false hne]; simp)
  have hb1 : (r == c) = false := by rw [beq_eq_false_iff_ne]; exact hne
  have hb2 : (r != c) = true := by unfold bne; rw [hb1]; rfl
  obtain ⟨W0, hW0⟩ : ∃ x, x = w.alloc (.cells #[.int .i64 r, .int .i64 c, .slice a n cap] 25) := ⟨_, rfl⟩
  have D := Lib.hid (show B3 W0 w.heap.size 25 (.int .i64 r) (.int .i64 c) (.slice a n cap) by rw [hW0]; exact B3.new _ _ _ _ _)
  have B0 := Lib.hid (show Below w.heap.size w W0 by rw [hW0]; exact (Below.refl _ _).alloc (Nat.le_refl _) _)
  have HW := Lib.hid hW0.symm
  clear hW0
  have d0 := D.out.c0
  have d1 := D.out.c1
  have d2 := D.out.c2
  go_enter Tryz.func43, Tryz.ntmps43
  go_wp2_with (rw [HW.out])
  have T := spec_matrixOk ratOk (fun b v zs d ds w h => spec_ratOk b v zs d ds w h) r c _ L _ (HR.out.below B0.out)
  rw [q0] at T
  refine T.mono ?_
  rintro e w1 ⟨rfl, b1⟩
  replace D := Lib.hid (D.out.below b1)
  replace B0 := Lib.hid (B0.out.trans (b1.mono B0.out.size))
  clear b1 T d0 d1 d2
  have d0 := D.out.c0
  have d1 := D.out.c1
  have d2 := D.out.c2
  go_wp2_with fail
  have T := spec_isV _ V _ (HV.out.below B0.out)
  rw [q1] at T
  refine T.mono ?_
  rintro e w1 ⟨rfl, b1⟩
  replace D := Lib.hid (D.out.below b1)
  replace B0 := Lib.hid (B0.out.trans (b1.mono B0.out.size))
  clear b1 T d0 d1 d2
  have d0 := D.out.c0
  have d1 := D.out.c1
  have d2 := D.out.c2
  go_wp2_with fail
  exact bodyPost_ret (v := .tuple #[.slice none 0 0, .bool false]) (by simp [results, Tryz.results43, go_sem]) rfl (by rw [(ss_no HDO.out).1, (ss_no HDO.out).2]; exact ⟨_, _, rfl, OwnV.nil _ _, B0.out⟩)
 case pos =>
 subst hne
 have hb0 : (r != r) = false := by simp
 by_cases h12 : r ≤ 12
 case neg =>
  have HDO := Lib.hid (show ssOk r r L V = false by unfold ssOk ivOk; rw [decide_eq_false h12]; simp)
  have hb1 : (12 : Int) < r := by omega
  obtain ⟨W0, hW0⟩ : ∃ x, x = w.alloc (.cells #[.int .i64 r, .int .i64 r, .slice a n cap] 25) := ⟨_, rfl⟩
  have D := Lib.hid (show B3 W0 w.heap.size 25 (.int .i64 r) (.int .i64 r) (.slice a n cap) by rw [hW0]; exact B3.new _ _ _ _ _)
  have B0 := Lib.hid (show Below w.heap.size w W0 by rw [hW0]; exact (Below.refl _ _).alloc (Nat.le_refl _) _)
  have HW := Lib.hid hW0.symm
  clear hW0
  have d0 := D.out.c0
  have d1 := D.out.c1
  have d2 := D.out.c2
  go_enter Tryz.func43, Tryz.ntmps43
  go_wp2_with (rw [HW.out])
  have T := spec_matrixOk ratOk (fun b v zs d ds w h => spec_ratOk b v zs d ds w h) r r _ L _ (HR.out.below B0.out)
  rw [q0] at T
  refine T.mono ?_
  rintro e w1 ⟨rfl, b1⟩
  replace D := Lib.hid (D.out.below b1)
  replace B0 := Lib.hid (B0.out.trans (b1.mono B0.out.size))
  clear b1 T d0 d1 d2
  have d0 := D.out.c0
  have d1 := D.out.c1
  have d2 := D.out.c2
  go_wp2_with fail
  have T := spec_isV _ V _ (HV.out.below B0.out)
  rw [q1] at T
  refine T.mono ?_
  rintro e w1 ⟨rfl, b1⟩
  replace D := Lib.hid (D.out.below b1)
  replace B0 := Lib.hid (B0.out.trans (b1.mono B0.out.size))
  clear b1 T d0 d1 d2
  have d0 := D.out.c0
  have d1 := D.out.c1
  have d2 := D.out.c2
  go_wp2_with fail
  exact bodyPost_ret (v := .tuple #[.slice none 0 0, .bool false]) (by simp [results, Tryz.results43, go_sem]) rfl (by rw [(ss_no HDO.out).1, (ss_no HDO.out).2]; exact ⟨_, _, rfl, OwnV.nil _ _, B0.out⟩)
 case pos =>
 have hb3 : ¬ (12 : Int) < r := by omega
 by_cases hlen : (m : Int) = r
 case neg =>
  have HDO := Lib.hid (show ssOk r r L V = false by unfold ssOk; rw [HM.out, decide_eq_false hlen]; simp)
  have hb1 : ((m : Int) == r) = false := by rw [beq_eq_false_iff_ne]; exact hlen
  have hb2 : ((m : Int) != r) = true := by unfold bne; rw [hb1]; rfl
  obtain ⟨W0, hW0⟩ : ∃ x, x = w.alloc (.cells #[.int .i64 r, .int .i64 r, .slice a n cap] 25) := ⟨_, rfl⟩
  have D := Lib.hid (show B3 W0 w.heap.size 25 (.int .i64 r) (.int .i64 r) (.slice a n cap) by rw [hW0]; exact B3.new _ _ _ _ _)
  have B0 := Lib.hid (show Below w.heap.size w W0 by rw [hW0]; exact (Below.refl _ _).alloc (Nat.le_refl _) _)
  have HW := Lib.hid hW0.symm
  clear hW0
  have d0 := D.out.c0
  have d1 := D.out.c1
  have d2 := D.out.c2
  go_enter Tryz.func43, Tryz.ntmps43
  go_wp2_with (rw [HW.out])
  have T := spec_matrixOk ratOk (fun b v zs d ds w h => spec_ratOk b v zs d ds w h) r r _ L _ (HR.out.below B0.out)
  rw [q0] at T
  refine T.mono ?_
  rintro e w1 ⟨rfl, b1⟩
  replace D := Lib.hid (D.out.below b1)
  replace B0 := Lib.hid (B0.out.trans (b1.mono B0.out.size))
  clear b1 T d0 d1 d2
  have d0 := D.out.c0
  have d1 := D.out.c1
  have d2 := D.out.c2
  go_wp2_with fail
  have T := spec_isV _ V _ (HV.out.below B0.out)
  rw [q1] at T
  refine T.mono ?_
  rintro e w1 ⟨rfl, b1⟩
  replace D := Lib.hid (D.out.below b1)
  replace B0 := Lib.hid (B0.out.trans (b1.mono B0.out.size))
  clear b1 T d0 d1 d2
  have d0 := D.out.c0
  have d1 := D.out.c1
  have d2 := D.out.c2
  go_wp2_with fail
  exact bodyPost_ret (v := .tuple #[.slice none 0 0, .bool false]) (by simp [results, Tryz.results43, go_sem]) rfl (by rw [(ss_no HDO.out).1, (ss_no HDO.out).2]; exact ⟨_, _, rfl, OwnV.nil _ _, B0.out⟩)
 case pos =>
  have hIV : ivOk r r L = true := by unfold ivOk; rw [q0, decide_eq_true rfl, decide_eq_true h12]; rfl
  have HDO := Lib.hid (show ssOk r r L V = true by unfold ssOk; rw [hIV, q1, HM.out, decide_eq_true hlen]; rfl)
  obtain ⟨R, hrR, _, h12', hLn, hE⟩ := iv_ok2 hIV
  subst hrR
  obtain rfl : m = R := by omega
  rw [HN.out] at hLn
  have hsv := fun W (hW : Below w.heap.size w W) => spec_solveV m n cap cv a b L V W (HR.out.below hW) (HV.out.below hW) h12' HN.out hLn HM.out hE (vec_all q1)
  obtain ⟨ZR, hZR⟩ : ∃ x, x = svR m 1 L V := ⟨_, rfl⟩
  obtain ⟨ZB, hZB⟩ : ∃ x, x = svB m 1 L V := ⟨_, rfl⟩
  rw [← hZR, ← hZB] at hsv
  have HSV := Lib.hid hsv
  have HA := Lib.hid (ss_yes HDO.out)
  rw [Int.toNat_natCast, ← hZR, ← hZB] at HA
  have hb4 : ((m : Int) != (m : Int)) = false := by simp
  clear hsv hZR hZB hLn hE hIV hlen
  obtain ⟨W0, hW0⟩ : ∃ x, x = w.alloc (.cells #[.int .i64 (m : Int), .int .i64 (m : Int), .slice a n cap] 25) := ⟨_, rfl⟩
  have D := Lib.hid (show B3 W0 w.heap.size 25 (.int .i64 (m : Int)) (.int .i64 (m : Int)) (.slice a n cap) by rw [hW0]; exact B3.new _ _ _ _ _)
  have B0 := Lib.hid (show Below w.heap.size w W0 by rw [hW0]; exact (Below.refl _ _).alloc (Nat.le_refl _) _)
  have HW := Lib.hid hW0.symm
  clear hW0
  have d0 := D.out.c0
  have d1 := D.out.c1
  have d2 := D.out.c2
  go_enter Tryz.func43, Tryz.ntmps43
  go_wp2_with (rw [HW.out])
  have T := spec_matrixOk ratOk (fun b v zs d ds w h => spec_ratOk b v zs d ds w h) (m : Int) (m : Int) _ L _ (HR.out.below B0.out)
  rw [q0] at T
  refine T.mono ?_
  rintro e w1 ⟨rfl, b1⟩
  replace D := Lib.hid (D.out.below b1)
  replace B0 := Lib.hid (B0.out.trans (b1.mono B0.out.size))
  clear b1 T d0 d1 d2
  have d0 := D.out.c0
  have d1 := D.out.c1
  have d2 := D.out.c2
  go_wp2_with fail
  have T := spec_isV _ V _ (HV.out.below B0.out)
  rw [q1] at T
  refine T.mono ?_
  rintro e w1 ⟨rfl, b1⟩
  replace D := Lib.hid (D.out.below b1)
  replace B0 := Lib.hid (B0.out.trans (b1.mono B0.out.size))
  clear b1 T d0 d1 d2
  have d0 := D.out.c0
  have d1 := D.out.c1
  have d2 := D.out.c2
  go_wp2_with fail
  refine (HSV.out _ B0.out).mono ?_
  rintro e w2 ⟨x, xs, rfl, o2, b2⟩
  obtain ⟨a2, c2, rfl⟩ := o2.slice
  have B2 := Lib.hid (B0.out.trans (b2.mono B0.out.size))
  have O2 := Lib.hid (o2.base B0.out.size)
  clear o2 b2
  go_wp2_with fail
  exact bodyPost_ret (v := .tuple #[.slice a2 ZR.length c2, .bool ZB]) (by simp [results, Tryz.results43, go_sem]) rfl (by rw [HA.out.1, HA.out.2]; exact ⟨_, _, rfl, O2.out, B2.out⟩)
set_option maxRecDepth 100000 in
set_option maxHeartbeats 2000000 in
theorem impl_solveM (r c : Int) (v : Value) (L : List Fr) (u : Value) (V : List Fr) (w : World) (h : RatsAt w v L) (h' : RatsAt w u V) :
  Calls Tryz.prog 15 #[.agg #[.int .i64 r, .int .i64 c, v], u] w fun e w' => ∃ x xs, e = .returned (.tuple #[x, .bool (ssB r c L V)]) ∧ OwnV w' w.heap.size x (ssR r c L V) xs ∧ Below w.heap.size w w' := by
 have HR := Lib.hid h
 have HV := Lib.hid h'
 obtain ⟨a, cap, rfl, hc1, hc2⟩ := ratsAt_form h
 obtain ⟨b, cv, rfl, hc1', hc2'⟩ := ratsAt_form h'
 clear h h'
 obtain ⟨n, hnn⟩ : ∃ n, L.length = n := ⟨_, rfl⟩
 obtain ⟨m, hmm⟩ : ∃ n, V.length = n := ⟨_, rfl⟩
 rw [hnn] at HR hc1 ⊢
 rw [hmm] at HV hc1' ⊢
 have HN := Lib.hid hnn
 have HM := Lib.hid hmm
 clear hnn hmm
 by_cases hlen : (m : Int) = r
 case neg =>
  have HDO := Lib.hid (show ssOk r c L V = false by unfold ssOk; rw [HM.out, decide_eq_false hlen]; simp)
  have hb1 : ((m : Int) == r) = false := by rw [beq_eq_false_iff_ne]; exact hlen
  have hb2 : ((m : Int) != r) = true := by unfold bne; rw [hb1]; rfl
  obtain ⟨W0, hW0⟩ : ∃ x, x = w.alloc (.cells #[.int .i64 r, .int .i64 c, .slice a n cap] 25) := ⟨_, rfl⟩
  have D := Lib.hid (show B3 W0 w.heap.size 25 (.int .i64 r) (.int .i64 c) (.slice a n cap) by rw [hW0]; exact B3.new _ _ _ _ _)
  have B0 := Lib.hid (show Below w.heap.size w W0 by rw [hW0]; exact (Below.refl _ _).alloc (Nat.le_refl _) _)
  have HW := Lib.hid hW0.symm
  clear hW0
  have d0 := D.out.c0
  have d1 := D.out.c1
  have d2 := D.out.c2
  go_enter Tryz.func15, Tryz.ntmps15
  go_wp2_with (rw [HW.out])
  exact bodyPost_ret (v := .tuple #[.slice none 0 0, .bool false]) (by simp [results, Tryz.results15, go_sem]) rfl (by rw [(ss_no HDO.out).1, (ss_no HDO.out).2]; exact ⟨_, _, rfl, OwnV.nil _ _, B0.out⟩)
 case pos =>
 subst hlen
 have hb0 : ((m : Int) != (m : Int)) = false := by simp
 cases q0 : ivOk (m : Int) c L with
 | false =>
  have HDO := Lib.hid (show ssOk m c L V = false by unfold ssOk; rw [q0]; rfl)
  obtain ⟨W0, hW0⟩ : ∃ x, x = w.alloc (.cells #[.int .i64 (m : Int), .int .i64 c, .slice a n cap] 25) := ⟨_, rfl⟩
  have D := Lib.hid (show B3 W0 w.heap.size 25 (.int .i64 (m : Int)) (.int .i64 c) (.slice a n cap) by rw [hW0]; exact B3.new _ _ _ _ _)
  have B0 := Lib.hid (show Below w.heap.size w W0 by rw [hW0]; exact (Below.refl _ _).alloc (Nat.le_refl _) _)
  have HW := Lib.hid hW0.symm
  clear hW0
  have d0 := D.out.c0
  have d1 := D.out.c1
  have d2 := D.out.c2
  go_enter Tryz.func15, Tryz.ntmps15
  go_wp2_with (rw [HW.out])
  have T := impl_isSystem (m : Int) c _ L _ (HR.out.below B0.out)
  rw [q0] at T
  refine T.mono ?_
  rintro e w1 ⟨rfl, b1⟩
  replace D := Lib.hid (D.out.below b1)
  replace B0 := Lib.hid (B0.out.trans (b1.mono B0.out.size))
  clear b1 T d0 d1 d2
  have d0 := D.out.c0
  have d1 := D.out.c1
  have d2 := D.out.c2
  go_wp2_with fail
  exact bodyPost_ret (v := .tuple #[.slice none 0 0, .bool false]) (by simp [results, Tryz.results15, go_sem]) rfl (by rw [(ss_no HDO.out).1, (ss_no HDO.out).2]; exact ⟨_, _, rfl, OwnV.nil _ _, B0.out⟩)
 | true =>
 cases q1 : vecB ratOk V with
 | false =>
  have HDO := Lib.hid (show ssOk m c L V = false by unfold ssOk; rw [q1]; simp)
  obtain ⟨W0, hW0⟩ : ∃ x, x = w.alloc (.cells #[.int .i64 (m : Int), .int .i64 c, .slice a n cap] 25) := ⟨_, rfl⟩
  have D := Lib.hid (show B3 W0 w.heap.size 25 (.int .i64 (m : Int)) (.int .i64 c) (.slice a n cap) by rw [hW0]; exact B3.new _ _ _ _ _)
  have B0 := Lib.hid (show Below w.heap.size w W0 by rw [hW0]; exact (Below.refl _ _).alloc (Nat.le_refl _) _)
  have HW := Lib.hid hW0.symm
  clear hW0
  have d0 := D.out.c0
  have d1 := D.out.c1
  have d2 := D.out.c2
  go_enter Tryz.func15, Tryz.ntmps15
  go_wp2_with (rw [HW.out])
  have T := impl_isSystem (m : Int) c _ L _ (HR.out.below B0.out)
  rw [q0] at T
  refine T.mono ?_
  rintro e w1 ⟨rfl, b1⟩
  replace D := Lib.hid (D.out.below b1)
  replace B0 := Lib.hid (B0.out.trans (b1.mono B0.out.size))
  clear b1 T d0 d1 d2
  have d0 := D.out.c0
  have d1 := D.out.c1
  have d2 := D.out.c2
  go_wp2_with fail
  have T := impl_isV _ V _ (HV.out.below B0.out)
  rw [q1] at T
  refine T.mono ?_
  rintro e w1 ⟨rfl, b1⟩
  replace D := Lib.hid (D.out.below b1)
  replace B0 := Lib.hid (B0.out.trans (b1.mono B0.out.size))
  clear b1 T d0 d1 d2
  have d0 := D.out.c0
  have d1 := D.out.c1
  have d2 := D.out.c2
  go_wp2_with fail
  exact bodyPost_ret (v := .tuple #[.slice none 0 0, .bool false]) (by simp [results, Tryz.results15, go_sem]) rfl (by rw [(ss_no HDO.out).1, (ss_no HDO.out).2]; exact ⟨_, _, rfl, OwnV.nil _ _, B0.out⟩)
 | true =>
  have HDO := Lib.hid (show ssOk m c L V = true by unfold ssOk; rw [q0, q1, HM.out, decide_eq_true rfl]; rfl)
  obtain ⟨R, hrR, hcR, h12', hLn, hE⟩ := iv_ok2 q0
  obtain rfl : m = R := by omega
  subst hcR
  clear hrR
  rw [HN.out] at hLn
  have hsv := fun W (hW : Below w.heap.size w W) => impl_solveFor m 1 n m cap cv a b L V W (HR.out.below hW) (HV.out.below hW) (sv_one h12' HN.out hLn HM.out hE (vec_all q1))
  obtain ⟨ZR, hZR⟩ : ∃ x, x = svR m 1 L V := ⟨_, rfl⟩
  obtain ⟨ZB, hZB⟩ : ∃ x, x = svB m 1 L V := ⟨_, rfl⟩
  obtain ⟨ZN, hZN⟩ : ∃ x, x = svN m 1 L V := ⟨_, rfl⟩
  obtain ⟨ZK, hZK⟩ : ∃ x, x = svK m 1 L V := ⟨_, rfl⟩
  rw [← hZR, ← hZB, ← hZN, ← hZK, show ((1 : Nat) : Int) = 1 from rfl] at hsv
  have HSV := Lib.hid hsv
  have HA := Lib.hid (ss_yes HDO.out)
  rw [Int.toNat_natCast, ← hZR, ← hZB] at HA
  clear hsv hZR hZB hZN hZK hLn hE
  obtain ⟨W0, hW0⟩ : ∃ x, x = w.alloc (.cells #[.int .i64 (m : Int), .int .i64 (m : Int), .slice a n cap] 25) := ⟨_, rfl⟩
  have D := Lib.hid (show B3 W0 w.heap.size 25 (.int .i64 (m : Int)) (.int .i64 (m : Int)) (.slice a n cap) by rw [hW0]; exact B3.new _ _ _ _ _)
  have B0 := Lib.hid (show Below w.heap.size w W0 by rw [hW0]; exact (Below.refl _ _).alloc (Nat.le_refl _) _)
  have HW := Lib.hid hW0.symm
  clear hW0
  have d0 := D.out.c0
  have d1 := D.out.c1
  have d2 := D.out.c2
  go_enter Tryz.func15, Tryz.ntmps15
  go_wp2_with (rw [HW.out])
  have T := impl_isSystem (m : Int) (m : Int) _ L _ (HR.out.below B0.out)
  rw [q0] at T
  refine T.mono ?_
  rintro e w1 ⟨rfl, b1⟩
  replace D := Lib.hid (D.out.below b1)
  replace B0 := Lib.hid (B0.out.trans (b1.mono B0.out.size))
  clear b1 T d0 d1 d2
  have d0 := D.out.c0
  have d1 := D.out.c1
  have d2 := D.out.c2
  go_wp2_with fail
  have T := impl_isV _ V _ (HV.out.below B0.out)
  rw [q1] at T
  refine T.mono ?_
  rintro e w1 ⟨rfl, b1⟩
  replace D := Lib.hid (D.out.below b1)
  replace B0 := Lib.hid (B0.out.trans (b1.mono B0.out.size))
  clear b1 T d0 d1 d2
  have d0 := D.out.c0
  have d1 := D.out.c1
  have d2 := D.out.c2
  go_wp2_with fail
  refine (HSV.out _ B0.out).mono ?_
  rintro e w2 ⟨x, xs, rfl, o2, b2⟩
  obtain ⟨a2, c2, rfl⟩ := o2.slice
  have B2 := Lib.hid (B0.out.trans (b2.mono B0.out.size))
  have O2 := Lib.hid (o2.base B0.out.size)
  clear o2 b2
  obtain ⟨pX, hpX⟩ : ∃ x, x = w2.heap.size := ⟨_, rfl⟩
  obtain ⟨W3, hW3⟩ : ∃ x, x = w2.alloc (.cells #[.int .i64 ZN, .int .i64 ZK, .slice a2 ZR.length c2] 25) := ⟨_, rfl⟩
  have X3 := Lib.hid (show B3 W3 pX 25 (.int .i64 ZN) (.int .i64 ZK) (.slice a2 ZR.length c2) by rw [hW3, hpX]; exact B3.new _ _ _ _ _)
  have O3 := Lib.hid (show OwnV W3 w.heap.size (.slice a2 ZR.length c2) ZR xs by rw [hW3]; exact O2.out.alloc _)
  have B3' := Lib.hid (show Below w.heap.size w W3 by rw [hW3]; exact B2.out.alloc B2.out.size _)
  have HW3 := Lib.hid hW3.symm
  have HPX := Lib.hid hpX.symm
  clear hW3 hpX O2 B2 d0 d1 d2
  have x2 := X3.out.c2
  go_wp2_with (rw [HW3.out, HPX.out])
  exact bodyPost_ret (v := .tuple #[.slice a2 ZR.length c2, .bool ZB]) (by simp [results, Tryz.results15, go_sem]) rfl (by rw [HA.out.1, HA.out.2]; exact ⟨_, _, rfl, O3.out, B3'.out⟩)
end Go.Proofs.YtlepgkkpopjgoaaGreat
namespace Go.Proofs.YtlepgkkpopjgoaaGreat
open Go.RowKit Go.WideShapes Go.ChangeShapes
set_option linter.unusedVariables false
set_option linter.unusedSimpArgs false
theorem svU_mem {C n K i : Nat} {T : List Fr} {f : Fr} (h : f ∈ svU C n K Fr.zero T i) : f ∈ T ∨ f = Fr.zero := by
 unfold svU at h
 rw [List.mem_map] at h
 obtain ⟨p, _, rfl⟩ := h
 cases hq : T[phi C n K p]? with
 | none => exact .inr rfl
 | some x => exact .inl (List.mem_of_getElem? hq)
theorem svR_lens {n K N m : Nat} {L M : List Fr} (h : SvOk n K N m L M) : ∀ f ∈ svR n K L M, f.mag.length ≤ 60 ∧ f.den.length ≤ 60 := by
  intro f hf
  unfold svR at hf
  split at hf
  · rename_i hb
    unfold svB at hb
    rw [Bool.and_eq_true] at hb
    have hE := h.el hb.1
    rcases svU_mem hf with h1 | rfl
    · unfold tabM at h1
      rw [List.mem_map] at h1
      obtain ⟨p, hp, rfl⟩ := h1
      rw [List.mem_range] at hp
      have hC0 : 0 < n + K := by rcases Nat.eq_zero_or_pos (n + K) with h0 | h0
                                 · rw [h0, Nat.mul_zero] at hp; omega
                                 · exact h0
      exact ok_lens (hE.ok _ _ (by rw [Nat.div_lt_iff_lt_mul hC0]; exact hp) (Nat.mod_lt _ hC0))
    · exact ⟨by simp [Fr.zero], by simp [Fr.zero]⟩
  · simp at hf
theorem svR_len {n K : Nat} {L M : List Fr} : (svR n K L M).length ≤ n * K := by
 unfold svR
 split
 ·unfold svL; rw [svU_len]; exact Nat.le_refl _
 ·simp
theorem ssR_len (r c : Int) (L V : List Fr) : cntL (ssR r c L V) ≤ 100000 := by
 cases h : ssOk r c L V with
 | false => rw [(ss_no h).1]; exact cnt_nil
 | true =>
  have h9 := h
  unfold ssOk at h9
  simp only [Bool.and_eq_true, decide_eq_true_eq] at h9
  obtain ⟨R, rfl, rfl, h12, hLn, hE⟩ := iv_ok2 h9.1
  have hV := vec_all h9.2.1
  have hVn : V.length = R := by have := h9.2.2; omega
  rw [(ss_yes h).1, Int.toNat_natCast]
  exact cntM_le (Nat.le_trans svR_len (Nat.le_trans (Nat.mul_le_mul (show R ≤ 24 by omega) (show 1 ≤ 24 by omega)) (by decide))) (svR_lens (sv_one h12 hLn rfl hVn hE hV))
set_option maxRecDepth 100000
set_option maxHeartbeats 4000000 in
theorem law_solveSystem (W : World) (r0 q0 : Int) (v0 : Value) (zs0 : List Fr) (h0 : RatsAt W v0 zs0) (_ : True) (v1 : Value) (zs1 : List Fr) (h1 : RatsAt W v1 zs1) (_ : True) :
  Calls Tryz.prog 9 #[.agg #[.int .i64 r0, .int .i64 q0, v0], v1] W fun e w' => e = .returned (.bool true) ∧ Below W.heap.size W w' := by
 have R0 := Lib.hid h0
 obtain ⟨a0, c0, rfl, g0, k0⟩ := ratsAt_form h0
 clear h0
 obtain ⟨m0, hm0'⟩ : ∃ n, zs0.length = n := ⟨_, rfl⟩
 rw [hm0'] at R0 g0 ⊢
 have N0 := Lib.hid hm0'
 clear hm0'
 have R1 := Lib.hid h1
 clear h1
 by_cases hs0 : (zs0.length : Int) + szL zs0 ≤ 1048576
 rotate_left
 ·go_enter Tryz.func9, Tryz.ntmps9
  go_wp2_with fail
  obtain ⟨W0, hW0⟩ : ∃ x, x = (W.alloc (.cells #[.int .i64 r0, .int .i64 q0, .slice a0 m0 c0] 55)) := ⟨_, rfl⟩
  have B := Lib.hid (show Below W.heap.size W W0 by rw [hW0]; exact ((Below.refl W.heap.size W).alloc (Nat.le_refl _) (.cells #[.int .i64 r0, .int .i64 q0, .slice a0 m0 c0] 55)))
  have D_a0 := Lib.hid (show B3 W0 W.heap.size 55 (.int .i64 r0) (.int .i64 q0) (.slice a0 m0 c0) by rw [hW0]; exact b3_at (B3.new _ _ _ _ _) (by simp))
  have zw := Lib.hid (show W0.heap.size = W.heap.size + 1 by rw [hW0]; simp)
  rw [← hW0]
  clear hW0
  refine (sz_mat_no r0 q0 _ zs0 (1048576) _ (R0.out.below B.out) (by omega) (by omega)).mono ?_
  rintro e w1 ⟨rfl, bw1⟩
  replace D_a0 := Lib.hid (D_a0.out.below bw1)
  replace B := Lib.hid (B.out.trans (bw1.mono B.out.size))
  have z_w1 := Lib.hid bw1.size
  clear bw1
  go_wp2
  go_ret
  exact ⟨rfl, B.out⟩
 by_cases hs1 : (zs1.length : Int) + szL zs1 ≤ 1048576 - (zs0.length : Int) - szL zs0
 rotate_left
 ·go_enter Tryz.func9, Tryz.ntmps9
  go_wp2_with fail
  obtain ⟨W0, hW0⟩ : ∃ x, x = (W.alloc (.cells #[.int .i64 r0, .int .i64 q0, .slice a0 m0 c0] 55)) := ⟨_, rfl⟩
  have B := Lib.hid (show Below W.heap.size W W0 by rw [hW0]; exact ((Below.refl W.heap.size W).alloc (Nat.le_refl _) (.cells #[.int .i64 r0, .int .i64 q0, .slice a0 m0 c0] 55)))
  have D_a0 := Lib.hid (show B3 W0 W.heap.size 55 (.int .i64 r0) (.int .i64 q0) (.slice a0 m0 c0) by rw [hW0]; exact b3_at (B3.new _ _ _ _ _) (by simp))
  have zw := Lib.hid (show W0.heap.size = W.heap.size + 1 by rw [hW0]; simp)
  rw [← hW0]
  clear hW0
  refine (sz_mat_yes r0 q0 _ zs0 (1048576) _ (R0.out.below B.out) (by omega) (by omega)).mono ?_
  rintro e w1 ⟨rfl, bw1⟩
  replace D_a0 := Lib.hid (D_a0.out.below bw1)
  replace B := Lib.hid (B.out.trans (bw1.mono B.out.size))
  have z_w1 := Lib.hid bw1.size
  clear bw1
  go_wp2_with fail
  refine (sz_ratv_no _ zs1 (1048576 - (zs0.length : Int) - szL zs0) _ (R1.out.below B.out) (by omega) (by omega)).mono ?_
  rintro e w2 ⟨rfl, bw2⟩
  replace D_a0 := Lib.hid (D_a0.out.below bw2)
  replace B := Lib.hid (B.out.trans (bw2.mono B.out.size))
  have z_w2 := Lib.hid bw2.size
  clear bw2
  go_wp2
  go_ret
  exact ⟨rfl, B.out⟩
 have HL0 := Lib.hid (show ∀ f ∈ zs0, f.mag.length ≤ 1099511627776 ∧ f.den.length ≤ 1099511627776 from fun f hf => by have := szL_mem hf; omega)
 have HN0 := Lib.hid (show zs0.length ≤ 1048576 by omega)
 have HC0 := Lib.hid (show cntL zs0 ≤ 1048576 by unfold cntL; omega)
 have HL1 := Lib.hid (show ∀ f ∈ zs1, f.mag.length ≤ 1099511627776 ∧ f.den.length ≤ 1099511627776 from fun f hf => by have := szL_mem hf; omega)
 have HN1 := Lib.hid (show zs1.length ≤ 1048576 by omega)
 have HC1 := Lib.hid (show cntL zs1 ≤ 1048576 by unfold cntL; omega)
 have hLEN := ssR_len r0 q0 zs0 zs1
 obtain ⟨ZL, hZL⟩ : ∃ x, x = ssR r0 q0 zs0 zs1 := ⟨_, rfl⟩
 have HZL := Lib.hid hZL
 rw [← hZL] at hLEN
 have HA := Lib.hid (show cntL ZL ≤ 100000 from hLEN)
 have HAN := Lib.hid (show ZL.length ≤ 1048576 by have := HA.out; unfold cntL at this; omega)
 clear hLEN hZL
 go_enter Tryz.func9, Tryz.ntmps9
 go_wp2_with fail
 obtain ⟨W0, hW0⟩ : ∃ x, x = (W.alloc (.cells #[.int .i64 r0, .int .i64 q0, .slice a0 m0 c0] 55)) := ⟨_, rfl⟩
 have B := Lib.hid (show Below W.heap.size W W0 by rw [hW0]; exact ((Below.refl W.heap.size W).alloc (Nat.le_refl _) (.cells #[.int .i64 r0, .int .i64 q0, .slice a0 m0 c0] 55)))
 have D_a0 := Lib.hid (show B3 W0 W.heap.size 55 (.int .i64 r0) (.int .i64 q0) (.slice a0 m0 c0) by rw [hW0]; exact b3_at (B3.new _ _ _ _ _) (by simp))
 have zw := Lib.hid (show W0.heap.size = W.heap.size + 1 by rw [hW0]; simp)
 rw [← hW0]
 clear hW0
 refine (sz_mat_yes r0 q0 _ zs0 (1048576) _ (R0.out.below B.out) (by omega) (by omega)).mono ?_
 rintro e w1 ⟨rfl, bw1⟩
 replace D_a0 := Lib.hid (D_a0.out.below bw1)
 replace B := Lib.hid (B.out.trans (bw1.mono B.out.size))
 have z_w1 := Lib.hid bw1.size
 clear bw1
 go_wp2_with fail
 refine (sz_ratv_yes _ zs1 (1048576 - (zs0.length : Int) - szL zs0) _ (R1.out.below B.out) (by omega) (by omega)).mono ?_
 rintro e w2 ⟨rfl, bw2⟩
 replace D_a0 := Lib.hid (D_a0.out.below bw2)
 replace B := Lib.hid (B.out.trans (bw2.mono B.out.size))
 have z_w2 := Lib.hid bw2.size
 clear bw2
 have c0_a0 := D_a0.out.c0
 have c1_a0 := D_a0.out.c1
 have c2_a0 := D_a0.out.c2
 go_wp2_with fail
 clear c0_a0 c1_a0 c2_a0
 refine (to_mat r0 q0 _ zs0 _ (R0.out.below B.out) HN0.out HL0.out).mono ?_
 rintro e w3 ⟨v_t1, x_t1, rfl, o_t1, bw3⟩
 obtain ⟨a_t1, c_t1, rfl⟩ := o_t1.slice
 replace D_a0 := Lib.hid (D_a0.out.below bw3)
 replace B := Lib.hid (B.out.trans (bw3.mono B.out.size))
 have z_w3 := Lib.hid bw3.size
 have O_t1 := Lib.hid o_t1
 have L_t1 := Lib.hid o_t1.lt
 clear o_t1
 clear bw3
 go_wp2_with fail
 refine (to_ratv _ zs1 _ (R1.out.below B.out) HN1.out HL1.out).mono ?_
 rintro e w4 ⟨v_t2, x_t2, rfl, o_t2, bw4⟩
 replace O_t1 := Lib.hid (O_t1.out.below bw4)
 replace D_a0 := Lib.hid (D_a0.out.below bw4)
 replace B := Lib.hid (B.out.trans (bw4.mono B.out.size))
 have z_w4 := Lib.hid bw4.size
 have O_t2 := Lib.hid o_t2
 have L_t2 := Lib.hid o_t2.lt
 clear o_t2
 clear bw4
 go_wp2_with fail
 have hc9 := spec_solveM r0 q0 _ zs0 _ zs1 w4 O_t1.out.rats O_t2.out.rats
 rw [← HZL.out] at hc9
 refine (hc9).mono ?_
 rintro e w5 ⟨v_w0, x_w0, rfl, o_w0, bw5⟩
 replace O_t1 := Lib.hid (O_t1.out.below bw5)
 replace O_t2 := Lib.hid (O_t2.out.below bw5)
 replace D_a0 := Lib.hid (D_a0.out.below bw5)
 replace B := Lib.hid (B.out.trans (bw5.mono B.out.size))
 have z_w5 := Lib.hid bw5.size
 have O_w0 := Lib.hid o_w0
 have L_w0 := Lib.hid o_w0.lt
 clear o_w0
 clear bw5
 clear O_t1 L_t1
 clear O_t2 L_t2
 have c0_a0 := D_a0.out.c0
 have c1_a0 := D_a0.out.c1
 have c2_a0 := D_a0.out.c2
 go_wp2_with fail
 clear c0_a0 c1_a0 c2_a0
 refine (to_mat r0 q0 _ zs0 _ (R0.out.below B.out) HN0.out HL0.out).mono ?_
 rintro e w6 ⟨v_x0, x_x0, rfl, o_x0, bw6⟩
 obtain ⟨a_x0, c_x0, rfl⟩ := o_x0.slice
 replace O_w0 := Lib.hid (O_w0.out.below bw6)
 replace D_a0 := Lib.hid (D_a0.out.below bw6)
 replace B := Lib.hid (B.out.trans (bw6.mono B.out.size))
 have z_w6 := Lib.hid bw6.size
 have O_x0 := Lib.hid o_x0
 have L_x0 := Lib.hid o_x0.lt
 clear o_x0
 clear bw6
 have hz := B.out.size
 go_wp2_with fail
 clear hz
 obtain ⟨w7, hW0⟩ : ∃ x, x = w6.alloc (.cells #[.int .i64 r0, .int .i64 q0, .slice a_x0 zs0.length c_x0] 25) := ⟨_, rfl⟩
 replace O_w0 := Lib.hid (show OwnV w7 _ _ _ _ by rw [hW0]; exact O_w0.out.alloc _)
 replace O_x0 := Lib.hid (show OwnV w7 _ _ _ _ by rw [hW0]; exact O_x0.out.alloc _)
 replace D_a0 := Lib.hid (show B3 w7 _ _ _ _ _ by rw [hW0]; exact D_a0.out.alloc _)
 have D_x0 := Lib.hid (show B3 w7 w6.heap.size 25 (.int .i64 r0) (.int .i64 q0) (.slice a_x0 zs0.length c_x0) by rw [hW0]; exact B3.new _ _ _ _ _)
 replace B := Lib.hid (show Below W.heap.size W w7 by rw [hW0]; exact B.out.alloc B.out.size _)
 have z_w7 := Lib.hid (show w7.heap.size = w6.heap.size + 1 by rw [hW0]; simp)
 rw [← hW0]
 clear hW0
 refine (to_ratv _ zs1 _ (R1.out.below B.out) HN1.out HL1.out).mono ?_
 rintro e w8 ⟨v_x1, x_x1, rfl, o_x1, bw8⟩
 replace O_w0 := Lib.hid (O_w0.out.below bw8)
 replace O_x0 := Lib.hid (O_x0.out.below bw8)
 replace D_a0 := Lib.hid (D_a0.out.below bw8)
 replace D_x0 := Lib.hid (D_x0.out.below bw8)
 replace B := Lib.hid (B.out.trans (bw8.mono B.out.size))
 have z_w8 := Lib.hid bw8.size
 have O_x1 := Lib.hid o_x1
 have L_x1 := Lib.hid o_x1.lt
 clear o_x1
 clear bw8
 have c0_x0 := D_x0.out.c0
 have c1_x0 := D_x0.out.c1
 have c2_x0 := D_x0.out.c2
 go_wp2_with fail
 clear c0_x0 c1_x0 c2_x0
 have hc9 := impl_solveM r0 q0 _ zs0 _ zs1 w8 O_x0.out.rats O_x1.out.rats
 rw [← HZL.out] at hc9
 refine (hc9).mono ?_
 rintro e w9 ⟨v_g0, x_g0, rfl, o_g0, bw9⟩
 replace O_w0 := Lib.hid (O_w0.out.below bw9)
 replace O_x0 := Lib.hid (O_x0.out.below bw9)
 replace O_x1 := Lib.hid (O_x1.out.below bw9)
 replace D_a0 := Lib.hid (D_a0.out.below bw9)
 replace D_x0 := Lib.hid (D_x0.out.below bw9)
 replace B := Lib.hid (B.out.trans (bw9.mono B.out.size))
 have z_w9 := Lib.hid bw9.size
 have O_g0 := Lib.hid o_g0
 have L_g0 := Lib.hid o_g0.lt
 clear o_g0
 clear bw9
 go_wp2_with fail
 refine (eq_ratv _ _ _ _ O_g0.out.rats O_w0.out.rats HAN.out).mono ?_
 rintro e w10 ⟨rfl, bw10⟩
 replace O_w0 := Lib.hid (O_w0.out.below bw10)
 replace O_x0 := Lib.hid (O_x0.out.below bw10)
 replace O_x1 := Lib.hid (O_x1.out.below bw10)
 replace O_g0 := Lib.hid (O_g0.out.below bw10)
 replace D_a0 := Lib.hid (D_a0.out.below bw10)
 replace D_x0 := Lib.hid (D_x0.out.below bw10)
 replace B := Lib.hid (B.out.trans (bw10.mono B.out.size))
 have z_w10 := Lib.hid bw10.size
 clear bw10
 go_wp2_with fail
 have c0_x0 := D_x0.out.c0
 have c1_x0 := D_x0.out.c1
 have c2_x0 := D_x0.out.c2
 have lt_x0 := D_x0.out.lt
 have c0_a0 := D_a0.out.c0
 have c1_a0 := D_a0.out.c1
 have c2_a0 := D_a0.out.c2
 have lt_a0 := D_a0.out.lt
 go_region_held3 (fun w' => w'.cell? ⟨w6.heap.size, 0, none⟩ = some (.int .i64 r0) ∧ w'.cell? ⟨w6.heap.size, 1, none⟩ = some (.int .i64 q0) ∧ w'.cell? ⟨w6.heap.size, 2, none⟩ = some (.slice a_x0 zs0.length c_x0) ∧ w'.cell? ⟨W.heap.size, 0, none⟩ = some (.int .i64 r0) ∧ w'.cell? ⟨W.heap.size, 1, none⟩ = some (.int .i64 q0) ∧ w'.cell? ⟨W.heap.size, 2, none⟩ = some (.slice a0 m0 c0)) (first | exact ⟨g12_0_x0, g12_1_x0, g12_2_x0, g12_0_a0, g12_1_a0, g12_2_a0⟩ | exact ⟨g11_0_x0, g11_1_x0, g11_2_x0, g11_0_a0, g11_1_a0, g11_2_a0⟩ | exact ⟨c0_x0, c1_x0, c2_x0, c0_a0, c1_a0, c2_a0⟩)
  (first
   | (have := bb11; go_at_call 30; refine (eq_mat _ _ _ _ _ _ (O_x0.out.rats.below bb11) o_t3.rats HN0.out).mono ?_; rintro e w12 ⟨rfl, bw12⟩; have bb12 : Below w10.heap.size w10 w12 := bb11.trans (bw12.mono bb11.size); have g12_0_x0 := (bb12.cell (p := ⟨w6.heap.size, 0, none⟩) lt_x0).trans c0_x0; have g12_1_x0 := (bb12.cell (p := ⟨w6.heap.size, 1, none⟩) lt_x0).trans c1_x0; have g12_2_x0 := (bb12.cell (p := ⟨w6.heap.size, 2, none⟩) lt_x0).trans c2_x0; have g12_0_a0 := (bb12.cell (p := ⟨W.heap.size, 0, none⟩) lt_a0).trans c0_a0; have g12_1_a0 := (bb12.cell (p := ⟨W.heap.size, 1, none⟩) lt_a0).trans c1_a0; have g12_2_a0 := (bb12.cell (p := ⟨W.heap.size, 2, none⟩) lt_a0).trans c2_a0)
   | (go_at_call 29; refine (to_mat r0 q0 _ zs0 _ (R0.out.below (B.out.trans (Below.mono (by first | exact Below.refl _ _ | exact (Below.refl _ _).drew) B.out.size))) HN0.out HL0.out).mono ?_; rintro e w11 ⟨v_t3, x_t3, rfl, o_t3, bw11⟩; obtain ⟨a_t3, c_t3, rfl⟩ := o_t3.slice; have bb11 : Below w10.heap.size w10 w11 := (by first | exact bw11 | exact ((Below.refl _ _).drew).trans bw11); have g11_0_x0 := (bb11.cell (p := ⟨w6.heap.size, 0, none⟩) lt_x0).trans c0_x0; have g11_1_x0 := (bb11.cell (p := ⟨w6.heap.size, 1, none⟩) lt_x0).trans c1_x0; have g11_2_x0 := (bb11.cell (p := ⟨w6.heap.size, 2, none⟩) lt_x0).trans c2_x0; have g11_0_a0 := (bb11.cell (p := ⟨W.heap.size, 0, none⟩) lt_a0).trans c0_a0; have g11_1_a0 := (bb11.cell (p := ⟨W.heap.size, 1, none⟩) lt_a0).trans c1_a0; have g11_2_a0 := (bb11.cell (p := ⟨W.heap.size, 2, none⟩) lt_a0).trans c2_a0))
 clear bw11
 have bw11 := bb11
 replace o_t3 : OwnV w11 w10.heap.size _ _ _ := o_t3
 replace O_w0 := Lib.hid (O_w0.out.below bw11)
 replace O_x0 := Lib.hid (O_x0.out.below bw11)
 replace O_x1 := Lib.hid (O_x1.out.below bw11)
 replace O_g0 := Lib.hid (O_g0.out.below bw11)
 replace D_a0 := Lib.hid (D_a0.out.below bw11)
 replace D_x0 := Lib.hid (D_x0.out.below bw11)
 replace B := Lib.hid (B.out.trans (bw11.mono B.out.size))
 have z_w11 := Lib.hid bw11.size
 have O_t3 := Lib.hid o_t3
 have L_t3 := Lib.hid o_t3.lt
 clear o_t3
 clear bw11
 clear g11_0_x0 g11_1_x0 g11_2_x0
 clear g11_0_a0 g11_1_a0 g11_2_a0
 replace O_w0 := Lib.hid (O_w0.out.below bw12)
 replace O_x0 := Lib.hid (O_x0.out.below bw12)
 replace O_x1 := Lib.hid (O_x1.out.below bw12)
 replace O_g0 := Lib.hid (O_g0.out.below bw12)
 replace O_t3 := Lib.hid (O_t3.out.below bw12)
 replace D_a0 := Lib.hid (D_a0.out.below bw12)
 replace D_x0 := Lib.hid (D_x0.out.below bw12)
 replace B := Lib.hid (B.out.trans (bw12.mono B.out.size))
 have z_w12 := Lib.hid bw12.size
 clear bw12
 clear g12_0_x0 g12_1_x0 g12_2_x0
 clear g12_0_a0 g12_1_a0 g12_2_a0
 clear bb11 bb12
 clear c0_x0 c1_x0 c2_x0 lt_x0
 clear c0_a0 c1_a0 c2_a0 lt_a0
 clear O_t3 L_t3
 go_wp2_with fail
 refine (to_ratv _ zs1 _ (R1.out.below B.out) HN1.out HL1.out).mono ?_
 rintro e w13 ⟨v_t4, x_t4, rfl, o_t4, bw13⟩
 replace O_w0 := Lib.hid (O_w0.out.below bw13)
 replace O_x0 := Lib.hid (O_x0.out.below bw13)
 replace O_x1 := Lib.hid (O_x1.out.below bw13)
 replace O_g0 := Lib.hid (O_g0.out.below bw13)
 replace D_a0 := Lib.hid (D_a0.out.below bw13)
 replace D_x0 := Lib.hid (D_x0.out.below bw13)
 replace B := Lib.hid (B.out.trans (bw13.mono B.out.size))
 have z_w13 := Lib.hid bw13.size
 have O_t4 := Lib.hid o_t4
 have L_t4 := Lib.hid o_t4.lt
 clear o_t4
 clear bw13
 go_wp2_with fail
 refine (eq_ratv _ _ _ _ O_x1.out.rats O_t4.out.rats HN1.out).mono ?_
 rintro e w14 ⟨rfl, bw14⟩
 replace O_w0 := Lib.hid (O_w0.out.below bw14)
 replace O_x0 := Lib.hid (O_x0.out.below bw14)
 replace O_x1 := Lib.hid (O_x1.out.below bw14)
 replace O_g0 := Lib.hid (O_g0.out.below bw14)
 replace O_t4 := Lib.hid (O_t4.out.below bw14)
 replace D_a0 := Lib.hid (D_a0.out.below bw14)
 replace D_x0 := Lib.hid (D_x0.out.below bw14)
 replace B := Lib.hid (B.out.trans (bw14.mono B.out.size))
 have z_w14 := Lib.hid bw14.size
 clear bw14
 clear O_t4 L_t4
 have c0_x0 := D_x0.out.c0
 have c1_x0 := D_x0.out.c1
 have c2_x0 := D_x0.out.c2
 go_wp2_with fail
 clear c0_x0 c1_x0 c2_x0
 refine (mark_mat _ _ _ (1) _ (zs0) _ _ _ (by simp) O_x0.out (by skip; have := HC0.out; have := HC1.out; skip; omega) (by have := HN0.out; omega)).mono ?_
 rintro e w15 ⟨rfl, om, bk⟩
 replace O_w0 := Lib.hid (O_w0.out.kept bk (fun k hk hs => by have := L_w0.out k hk; have := L_x0.out k hs; have := zw.out; have := z_w1.out; have := z_w2.out; have := z_w3.out; have := z_w4.out; have := z_w5.out; have := z_w6.out; have := z_w7.out; have := z_w8.out; have := z_w9.out; have := z_w10.out; have := z_w11.out; have := z_w12.out; have := z_w13.out; have := z_w14.out; omega))
 replace O_x1 := Lib.hid (O_x1.out.kept bk (fun k hk hs => by have := L_x1.out k hk; have := L_x0.out k hs; have := zw.out; have := z_w1.out; have := z_w2.out; have := z_w3.out; have := z_w4.out; have := z_w5.out; have := z_w6.out; have := z_w7.out; have := z_w8.out; have := z_w9.out; have := z_w10.out; have := z_w11.out; have := z_w12.out; have := z_w13.out; have := z_w14.out; omega))
 replace O_g0 := Lib.hid (O_g0.out.kept bk (fun k hk hs => by have := L_g0.out k hk; have := L_x0.out k hs; have := zw.out; have := z_w1.out; have := z_w2.out; have := z_w3.out; have := z_w4.out; have := z_w5.out; have := z_w6.out; have := z_w7.out; have := z_w8.out; have := z_w9.out; have := z_w10.out; have := z_w11.out; have := z_w12.out; have := z_w13.out; have := z_w14.out; omega))
 replace D_a0 := Lib.hid (B3.keptK D_a0.out bk (fun hs => by have := L_x0.out _ hs; have := zw.out; have := z_w1.out; have := z_w2.out; have := z_w3.out; have := z_w4.out; have := z_w5.out; have := z_w6.out; have := z_w7.out; have := z_w8.out; have := z_w9.out; have := z_w10.out; have := z_w11.out; have := z_w12.out; have := z_w13.out; have := z_w14.out; omega))
 replace D_x0 := Lib.hid (B3.keptK D_x0.out bk (fun hs => by have := L_x0.out _ hs; have := zw.out; have := z_w1.out; have := z_w2.out; have := z_w3.out; have := z_w4.out; have := z_w5.out; have := z_w6.out; have := z_w7.out; have := z_w8.out; have := z_w9.out; have := z_w10.out; have := z_w11.out; have := z_w12.out; have := z_w13.out; have := z_w14.out; omega))
 replace B := Lib.hid (below_kept B.out bk B.out.size (fun k hk => by have := L_x0.out k hk; have := zw.out; have := z_w1.out; have := z_w2.out; have := z_w3.out; have := z_w4.out; have := z_w5.out; have := z_w6.out; have := z_w7.out; have := z_w8.out; have := z_w9.out; have := z_w10.out; have := z_w11.out; have := z_w12.out; have := z_w13.out; have := z_w14.out; have := B.out.size; omega))
 have z_w15 := Lib.hid bk.size
 replace O_x0 := Lib.hid om
 clear om bk
 go_wp2_with fail
 refine (mark_ratv _ (1 + cntL zs0) _ (zs1) _ _ _ (by simp) O_x1.out (by skip; have := HC0.out; have := HC1.out; skip; omega) (by have := HN1.out; omega)).mono ?_
 rintro e w16 ⟨rfl, om, bk⟩
 replace O_w0 := Lib.hid (O_w0.out.kept bk (fun k hk hs => by have := L_w0.out k hk; have := L_x1.out k hs; have := zw.out; have := z_w1.out; have := z_w2.out; have := z_w3.out; have := z_w4.out; have := z_w5.out; have := z_w6.out; have := z_w7.out; have := z_w8.out; have := z_w9.out; have := z_w10.out; have := z_w11.out; have := z_w12.out; have := z_w13.out; have := z_w14.out; have := z_w15.out; omega))
 replace O_x0 := Lib.hid (O_x0.out.kept bk (fun k hk hs => by have := L_x0.out k hk; have := L_x1.out k hs; have := zw.out; have := z_w1.out; have := z_w2.out; have := z_w3.out; have := z_w4.out; have := z_w5.out; have := z_w6.out; have := z_w7.out; have := z_w8.out; have := z_w9.out; have := z_w10.out; have := z_w11.out; have := z_w12.out; have := z_w13.out; have := z_w14.out; have := z_w15.out; omega))
 replace O_g0 := Lib.hid (O_g0.out.kept bk (fun k hk hs => by have := L_g0.out k hk; have := L_x1.out k hs; have := zw.out; have := z_w1.out; have := z_w2.out; have := z_w3.out; have := z_w4.out; have := z_w5.out; have := z_w6.out; have := z_w7.out; have := z_w8.out; have := z_w9.out; have := z_w10.out; have := z_w11.out; have := z_w12.out; have := z_w13.out; have := z_w14.out; have := z_w15.out; omega))
 replace D_a0 := Lib.hid (B3.keptK D_a0.out bk (fun hs => by have := L_x1.out _ hs; have := zw.out; have := z_w1.out; have := z_w2.out; have := z_w3.out; have := z_w4.out; have := z_w5.out; have := z_w6.out; have := z_w7.out; have := z_w8.out; have := z_w9.out; have := z_w10.out; have := z_w11.out; have := z_w12.out; have := z_w13.out; have := z_w14.out; have := z_w15.out; omega))
 replace D_x0 := Lib.hid (B3.keptK D_x0.out bk (fun hs => by have := L_x1.out _ hs; have := zw.out; have := z_w1.out; have := z_w2.out; have := z_w3.out; have := z_w4.out; have := z_w5.out; have := z_w6.out; have := z_w7.out; have := z_w8.out; have := z_w9.out; have := z_w10.out; have := z_w11.out; have := z_w12.out; have := z_w13.out; have := z_w14.out; have := z_w15.out; omega))
 replace B := Lib.hid (below_kept B.out bk B.out.size (fun k hk => by have := L_x1.out k hk; have := zw.out; have := z_w1.out; have := z_w2.out; have := z_w3.out; have := z_w4.out; have := z_w5.out; have := z_w6.out; have := z_w7.out; have := z_w8.out; have := z_w9.out; have := z_w10.out; have := z_w11.out; have := z_w12.out; have := z_w13.out; have := z_w14.out; have := z_w15.out; have := B.out.size; omega))
 have z_w16 := Lib.hid bk.size
 replace O_x1 := Lib.hid om
 clear om bk
 clear O_x0 L_x0
 clear O_x1 L_x1
 go_wp2_with fail
 refine (eq_ratv _ _ _ _ O_g0.out.rats O_w0.out.rats HAN.out).mono ?_
 rintro e w17 ⟨rfl, bw17⟩
 replace O_w0 := Lib.hid (O_w0.out.below bw17)
 replace O_g0 := Lib.hid (O_g0.out.below bw17)
 replace D_a0 := Lib.hid (D_a0.out.below bw17)
 replace D_x0 := Lib.hid (D_x0.out.below bw17)
 replace B := Lib.hid (B.out.trans (bw17.mono B.out.size))
 have z_w17 := Lib.hid bw17.size
 clear bw17
 go_wp2_with fail
 refine (mark_ratv _ (1) _ (ZL) _ _ _ (by simp) O_g0.out (by have := HA.out; have := HC0.out; have := HC1.out; skip; omega) (by have := HAN.out; omega)).mono ?_
 rintro e w18 ⟨rfl, om, bk⟩
 replace O_w0 := Lib.hid (O_w0.out.kept bk (fun k hk hs => by have := L_w0.out k hk; have := L_g0.out k hs; have := zw.out; have := z_w1.out; have := z_w2.out; have := z_w3.out; have := z_w4.out; have := z_w5.out; have := z_w6.out; have := z_w7.out; have := z_w8.out; have := z_w9.out; have := z_w10.out; have := z_w11.out; have := z_w12.out; have := z_w13.out; have := z_w14.out; have := z_w15.out; have := z_w16.out; have := z_w17.out; omega))
 replace D_a0 := Lib.hid (B3.keptK D_a0.out bk (fun hs => by have := L_g0.out _ hs; have := zw.out; have := z_w1.out; have := z_w2.out; have := z_w3.out; have := z_w4.out; have := z_w5.out; have := z_w6.out; have := z_w7.out; have := z_w8.out; have := z_w9.out; have := z_w10.out; have := z_w11.out; have := z_w12.out; have := z_w13.out; have := z_w14.out; have := z_w15.out; have := z_w16.out; have := z_w17.out; omega))
 replace D_x0 := Lib.hid (B3.keptK D_x0.out bk (fun hs => by have := L_g0.out _ hs; have := zw.out; have := z_w1.out; have := z_w2.out; have := z_w3.out; have := z_w4.out; have := z_w5.out; have := z_w6.out; have := z_w7.out; have := z_w8.out; have := z_w9.out; have := z_w10.out; have := z_w11.out; have := z_w12.out; have := z_w13.out; have := z_w14.out; have := z_w15.out; have := z_w16.out; have := z_w17.out; omega))
 replace B := Lib.hid (below_kept B.out bk B.out.size (fun k hk => by have := L_g0.out k hk; have := zw.out; have := z_w1.out; have := z_w2.out; have := z_w3.out; have := z_w4.out; have := z_w5.out; have := z_w6.out; have := z_w7.out; have := z_w8.out; have := z_w9.out; have := z_w10.out; have := z_w11.out; have := z_w12.out; have := z_w13.out; have := z_w14.out; have := z_w15.out; have := z_w16.out; have := z_w17.out; have := B.out.size; omega))
 have z_w18 := Lib.hid bk.size
 replace O_g0 := Lib.hid om
 clear om bk
 go_wp2_with fail
 refine (held_ratv _ (1) _ ZL _ (by simp) O_g0.out.rats (by have := HA.out; omega)).mono ?_
 rintro e w19 ⟨rfl, bw19⟩
 replace O_w0 := Lib.hid (O_w0.out.below bw19)
 replace O_g0 := Lib.hid (O_g0.out.below bw19)
 replace D_a0 := Lib.hid (D_a0.out.below bw19)
 replace D_x0 := Lib.hid (D_x0.out.below bw19)
 replace B := Lib.hid (B.out.trans (bw19.mono B.out.size))
 have z_w19 := Lib.hid bw19.size
 clear bw19
 have c0_a0 := D_a0.out.c0
 have c1_a0 := D_a0.out.c1
 have c2_a0 := D_a0.out.c2
 go_wp2_with fail
 clear c0_a0 c1_a0 c2_a0
 refine (to_mat r0 q0 _ zs0 _ (R0.out.below B.out) HN0.out HL0.out).mono ?_
 rintro e w20 ⟨v_t5, x_t5, rfl, o_t5, bw20⟩
 obtain ⟨a_t5, c_t5, rfl⟩ := o_t5.slice
 replace O_w0 := Lib.hid (O_w0.out.below bw20)
 replace O_g0 := Lib.hid (O_g0.out.below bw20)
 replace D_a0 := Lib.hid (D_a0.out.below bw20)
 replace D_x0 := Lib.hid (D_x0.out.below bw20)
 replace B := Lib.hid (B.out.trans (bw20.mono B.out.size))
 have z_w20 := Lib.hid bw20.size
 have O_t5 := Lib.hid o_t5
 have L_t5 := Lib.hid o_t5.lt
 clear o_t5
 clear bw20
 go_wp2_with fail
 refine (to_ratv _ zs1 _ (R1.out.below B.out) HN1.out HL1.out).mono ?_
 rintro e w21 ⟨v_t6, x_t6, rfl, o_t6, bw21⟩
 replace O_w0 := Lib.hid (O_w0.out.below bw21)
 replace O_g0 := Lib.hid (O_g0.out.below bw21)
 replace O_t5 := Lib.hid (O_t5.out.below bw21)
 replace D_a0 := Lib.hid (D_a0.out.below bw21)
 replace D_x0 := Lib.hid (D_x0.out.below bw21)
 replace B := Lib.hid (B.out.trans (bw21.mono B.out.size))
 have z_w21 := Lib.hid bw21.size
 have O_t6 := Lib.hid o_t6
 have L_t6 := Lib.hid o_t6.lt
 clear o_t6
 clear bw21
 go_wp2_with fail
 have hc9 := impl_solveM r0 q0 _ zs0 _ zs1 w21 O_t5.out.rats O_t6.out.rats
 rw [← HZL.out] at hc9
 refine (hc9).mono ?_
 rintro e w22 ⟨v_h0, x_h0, rfl, o_h0, bw22⟩
 replace O_w0 := Lib.hid (O_w0.out.below bw22)
 replace O_g0 := Lib.hid (O_g0.out.below bw22)
 replace O_t5 := Lib.hid (O_t5.out.below bw22)
 replace O_t6 := Lib.hid (O_t6.out.below bw22)
 replace D_a0 := Lib.hid (D_a0.out.below bw22)
 replace D_x0 := Lib.hid (D_x0.out.below bw22)
 replace B := Lib.hid (B.out.trans (bw22.mono B.out.size))
 have z_w22 := Lib.hid bw22.size
 have O_h0 := Lib.hid o_h0
 have L_h0 := Lib.hid o_h0.lt
 clear o_h0
 clear bw22
 clear O_t5 L_t5
 clear O_t6 L_t6
 go_wp2_with fail
 refine (eq_ratv _ _ _ _ O_h0.out.rats O_w0.out.rats HAN.out).mono ?_
 rintro e w23 ⟨rfl, bw23⟩
 replace O_w0 := Lib.hid (O_w0.out.below bw23)
 replace O_g0 := Lib.hid (O_g0.out.below bw23)
 replace O_h0 := Lib.hid (O_h0.out.below bw23)
 replace D_a0 := Lib.hid (D_a0.out.below bw23)
 replace D_x0 := Lib.hid (D_x0.out.below bw23)
 replace B := Lib.hid (B.out.trans (bw23.mono B.out.size))
 have z_w23 := Lib.hid bw23.size
 clear bw23
 go_wp2_with fail
 refine (held_ratv _ (1) _ ZL _ (by simp) O_g0.out.rats (by have := HA.out; omega)).mono ?_
 rintro e w24 ⟨rfl, bw24⟩
 replace O_w0 := Lib.hid (O_w0.out.below bw24)
 replace O_g0 := Lib.hid (O_g0.out.below bw24)
 replace O_h0 := Lib.hid (O_h0.out.below bw24)
 replace D_a0 := Lib.hid (D_a0.out.below bw24)
 replace D_x0 := Lib.hid (D_x0.out.below bw24)
 replace B := Lib.hid (B.out.trans (bw24.mono B.out.size))
 have z_w24 := Lib.hid bw24.size
 clear bw24
 go_wp2
 go_ret
 exact ⟨rfl, B.out⟩
end Go.Proofs.YtlepgkkpopjgoaaGreat
