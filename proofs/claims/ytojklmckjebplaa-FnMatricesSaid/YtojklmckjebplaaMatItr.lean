/- Transpose of the program; the contracts of IsVector and clone open. -/
import Derived.Test.YtojklmckjebplaaMatIget
import Derived.Test.YtojklmckjebplaaVecUnit
import Derived.BigRegion
import Derived.Stop.RegionWithIn
import Derived.Deep.RegionHeld3
namespace Go.Proofs.Ytojklmckjebplaa
open Go.RowKit Go.WideShapes Go.ChangeShapes Go.Shelf
set_option linter.unusedVariables false
set_option linter.unusedSimpArgs false
attribute [local go_sem] Oper.semAt_some
theorem b3_own {β : Type} (B : Nat) (t : TypeId) (x y z : Value) : Own (fun (_ : β) W => B3 W B t x y z) := fun s X Y row hs hg hrow =>
  hs.keptK (Kept.of_grown hg) (fun e => by
    obtain ⟨o, ho, hc⟩ := hrow B e
    rw [show X.heap[B]? = _ from hs] at ho; cases ho; cases hc)
theorem OwnV.isCells {w : World} {B : Nat} {v : Value} {L : List Fr} {xs : List (Value × Value)} (h : OwnV w B v L xs) : ∀ k, OnV v xs k → ∃ o : Obj, w.heap[k]? = some o ∧ o.isCells = true := by
  have key : ∀ (u : Value) (l : List Int) (k : Nat), OwnI w B u l → u.ownBlock = some k → ∃ o : Obj, w.heap[k]? = some o ∧ o.isCells = true := by
    intro u l k ho e
    rcases ho.2 with ⟨rfl, _⟩ | ⟨g1, cap1, cur1, rfl, _, hg1, _⟩
    · simp [Value.ownBlock] at e
    · have e1 : g1 = k := by simpa [Value.ownBlock] using e
      subst e1
      exact ⟨_, hg1, rfl⟩
  rintro k (e | ⟨p, hp, e⟩)
  · rcases h.row.2 with ⟨rfl, _⟩ | ⟨g1, cap1, cur1, rfl, _, hg1, _⟩
    · simp [Value.ownBlock] at e
    · have e1 : g1 = k := by simpa [Value.ownBlock] using e
      subst e1
      exact ⟨_, hg1, rfl⟩
  · obtain ⟨i, hi, rfl⟩ := List.getElem_of_mem hp
    have hr := h.each i (by have := h.len; omega) hi
    rcases e with e | e
    · exact key _ _ k hr.1 e
    · exact key _ _ k hr.2.1 e
theorem OwnV.turn {X Y : World} {B : Nat} {v : Value} {L : List Fr} {xs : List (Value × Value)} {row : Option Nat} (h : OwnV X B v L xs) (hg : X.grownBy Y row) (hrow : ∀ r, row = some r → ∃ o : Obj, X.heap[r]? = some o ∧ o.isCells = false) : OwnV Y B v L xs :=
  h.kept (Kept.of_grown hg) (fun k hk e => by
    obtain ⟨o, ho, hc⟩ := hrow k e
    obtain ⟨o', ho', hc'⟩ := h.isCells k hk
    rw [ho] at ho'; injection ho' with e1; subst e1; rw [hc] at hc'; cases hc')
theorem ownV_own {β : Type} (B : Nat) (v : Value) (f : β → List Fr) : Own (fun s W => ∃ xs, OwnV W B v (f s) xs) := fun s X Y row ⟨xs, h⟩ hg hrow => ⟨xs, h.turn hg hrow⟩
theorem Kept.others {W W' : World} {g : Nat} {o : Obj} (h : Kept (fun k => k = g) W W') (hg : W.heap[g]? = some o) (hc : o.isCells = true) : KeepsOthers W W' :=
  ⟨h.size, fun k o' hk ho => (h.block k (Array.getElem?_eq_some_iff.1 hk).1 (fun e => by subst e; rw [hg] at hk; injection hk with e1; subst e1; rw [hc] at ho; cases ho)).trans hk⟩
theorem b3_shut {W : World} {B D : Nat} {t : TypeId} {x y z : Value} (h : B3 W B t x y z) (hK : W.heap[D]? = some (.deferred (some []))) : B3 (W.putObj D (.deferred none)) B t x y z :=
  h.keptK (Kept.of_grown (grownBy_putObj' W D (.deferred none))) (fun e => by
    injection e with e; subst e
    rw [show W.heap[D]? = _ from h] at hK; cases hK)
theorem ownV_shut {W : World} {B D : Nat} {v : Value} {L : List Fr} {xs : List (Value × Value)} (h : OwnV W B v L xs) (hK : W.heap[D]? = some (.deferred (some []))) : OwnV (W.putObj D (.deferred none)) B v L xs :=
  h.turn (grownBy_putObj' W D (.deferred none)) (fun r e => by cases e; exact ⟨_, hK, rfl⟩)
/-- what the transpose holds when the rows of pre have come, and of row x the first k elements -/
def trS (L : List Fr) (R C : Nat) (pre : List Nat) (x k : Nat) : List Fr := (List.range (C * R)).map (fun p => if p % R ∈ pre ∨ (p % R = x ∧ p / R < k) then elM L C (p % R) (p / R) else Fr.zero)
theorem trS_len (L : List Fr) (R C : Nat) (pre : List Nat) (x k : Nat) : (trS L R C pre x k).length = C * R := by simp [trS]
theorem trS_get {L : List Fr} {R C : Nat} {pre : List Nat} {x k p : Nat} (h : p < (trS L R C pre x k).length) : (trS L R C pre x k)[p]'h = if p % R ∈ pre ∨ (p % R = x ∧ p / R < k) then elM L C (p % R) (p / R) else Fr.zero := by
  simp [trS]
theorem trS_nil (L : List Fr) (R C x : Nat) : trS L R C [] x 0 = List.replicate (C * R) Fr.zero := by
  unfold trS
  apply List.ext_getElem (by simp)
  intro p h1 h2
  simp
theorem trS_start (L : List Fr) (R C : Nat) (pre : List Nat) (x y : Nat) : trS L R C pre x 0 = trS L R C pre y 0 := by
  unfold trS
  apply List.map_congr_left
  intro p _
  simp
theorem trS_end (L : List Fr) (R C : Nat) (pre : List Nat) (x y : Nat) : trS L R C pre x C = trS L R C (pre ++ [x]) y 0 := by
  unfold trS
  apply List.map_congr_left
  intro p hp
  have hlt := List.mem_range.1 hp
  have hR : 0 < R := by
    rcases Nat.eq_zero_or_pos R with h | h
    · subst h; omega
    · exact h
  have hd : p / R < C := by rw [Nat.div_lt_iff_lt_mul hR]; exact hlt
  simp [hd]
theorem trS_step {L : List Fr} {R C : Nat} {pre : List Nat} {x k : Nat} (hx : x < R) (hk : k < C) : trS L R C pre x (k + 1) = (trS L R C pre x k).set (k * R + x) (elM L C x k) := by
  have hR : 0 < R := by omega
  have h1 : (k * R + x) % R = x := by rw [Nat.mul_comm, Nat.mul_add_mod, Nat.mod_eq_of_lt hx]
  have h2 : (k * R + x) / R = k := by rw [Nat.mul_comm, Nat.mul_add_div hR, Nat.div_eq_of_lt hx]; rfl
  apply List.ext_getElem (by simp [trS])
  intro p hp1 hp2
  rw [List.getElem_set, trS_get]
  by_cases e : k * R + x = p
  · subst e
    rw [if_pos rfl, h1, h2, if_pos (.inr ⟨rfl, by omega⟩)]
  · rw [if_neg e, trS_get]
    have : (p % R ∈ pre ∨ (p % R = x ∧ p / R < k + 1)) ↔ (p % R ∈ pre ∨ (p % R = x ∧ p / R < k)) := by
      constructor
      · rintro (h | ⟨h3, h4⟩)
        · exact .inl h
        · refine .inr ⟨h3, ?_⟩
          rcases Nat.lt_or_ge (p / R) k with h5 | h5
          · exact h5
          · exfalso; apply e
            have := Nat.div_add_mod' p R
            rw [show p / R = k by omega, h3] at this
            exact this
      · rintro (h | ⟨h3, h4⟩)
        · exact .inl h
        · exact .inr ⟨h3, by omega⟩
    simp only [this]
theorem trS_all (L : List Fr) (R C x : Nat) : trS L R C (List.range R) x 0 = trM L R C C := by
  have key : ∀ K, K ≤ C → (List.range (K * R)).map (fun p => if p % R ∈ List.range R ∨ (p % R = x ∧ p / R < 0) then elM L C (p % R) (p / R) else Fr.zero) = trM L R C K := by
    intro K
    induction K with
    | zero => intro _; simp [trM]
    | succ K ih =>
      intro hK
      rw [trM_succ, ← ih (by omega), Nat.add_mul, Nat.one_mul, List.range_add, List.map_append]
      congr 1
      unfold trC
      rw [List.map_map]
      apply List.map_congr_left
      intro i hi
      have hi' := List.mem_range.1 hi
      have h1 : (K * R + i) % R = i := by rw [Nat.mul_comm, Nat.mul_add_mod, Nat.mod_eq_of_lt hi']
      have h2 : (K * R + i) / R = K := by rw [Nat.mul_comm, Nat.mul_add_div (by omega), Nat.div_eq_of_lt hi']; rfl
      simp only [Function.comp, h1, h2]
      rw [if_pos (.inl hi)]
  exact key C (Nat.le_refl _)

set_option maxRecDepth 100000 in
set_option maxHeartbeats 4000000 in
theorem impl_transposeH (ok : Bool → List Int → List Int → Bool)
    (HV : ∀ v L w, RatsAt w v L → Calls Try.prog 55 #[v] w fun e w' => e = .returned (.bool (vecB ok L)) ∧ Below w.heap.size w w')
    (HC : ∀ (f : Fr), ok f.neg f.mag f.den = true → ∀ v d w, RowR w v f.mag d f.den → Calls Try.prog 53 #[.agg #[.bool f.neg, v, d]] w fun r w' => ∃ x y, r = .returned (.agg #[.bool f.neg, x, y]) ∧ OwnR w' w.heap.size x f.mag y f.den ∧ Below w.heap.size w w')
    (r c : Int) (v : Value) (L : List Fr) (w : World) (h : RatsAt w v L) :
    Calls Try.prog 15 #[.agg #[.int .i64 r, .int .i64 c, v]] w fun e w' => ∃ u xs, e = .returned (.agg #[.int .i64 (tpR ok r c L), .int .i64 (tpC ok r c L), u]) ∧ OwnV w' w.heap.size u (tpL ok r c L) xs ∧ Below w.heap.size w w' := by
  obtain ⟨a, cap, rfl, hc, hm, hr⟩ := h
  have HR := Lib.hid (show RatsAt w (.slice a L.length cap) L from ⟨a, cap, rfl, hc, hm, hr⟩)
  unfold maxLen at hm
  clear hr
  obtain ⟨n, hnn⟩ : ∃ n, L.length = n := ⟨_, rfl⟩
  rw [hnn] at hc HR ⊢
  have HN := Lib.hid hnn
  clear hnn
  obtain ⟨W0, hW0⟩ : ∃ x, x = (w.alloc (.cells #[.int .i64 r, .int .i64 c, .slice a n cap] 25)).alloc (.cells #[.int .i64 0, .int .i64 0, .slice none 0 0] 25) := ⟨_, rfl⟩
  have D := Lib.hid (show B3 W0 w.heap.size 25 (.int .i64 r) (.int .i64 c) (.slice a n cap) by rw [hW0]; exact (B3.new _ _ _ _ _).alloc _)
  have Z := Lib.hid (show B3 W0 (w.heap.size + 1) 25 (.int .i64 0) (.int .i64 0) (.slice none 0 0) by rw [hW0]; exact b3_at (B3.new _ _ _ _ _) (by simp))
  have B0 := Lib.hid (show Below w.heap.size w W0 by rw [hW0]; exact ((Below.refl _ _).alloc (Nat.le_refl _) _).alloc (by simp) _)
  have HW := Lib.hid hW0.symm
  clear hW0
  cases q0 : matB ok r c L with
  | false =>
    have e0 : tpL ok r c L = [] ∧ tpR ok r c L = 0 ∧ tpC ok r c L = 0 := by unfold tpL tpR tpC; rw [q0]; exact ⟨rfl, rfl, rfl⟩
    rw [e0.1, e0.2.1, e0.2.2]
    clear e0
    have d0 := D.out.c0
    have d1 := D.out.c1
    have d2 := D.out.c2
    refine (callsIn_wide (n := 3)).1 ?_
    refine callsIn_of_wp_marks Try.func15 rfl trivial ?_ rfl
    simp only [Try.ntmps15, List.size_toArray, List.length_cons, List.length_nil, Nat.reduceAdd, Nat.reduceSub, Array.replicate_succ, Array.replicate_zero, List.push_toArray, List.append_toArray, List.nil_append, List.cons_append]
    refine wpIn_wide.2 ?_
    go_wp2_with (rw [HW.out])
    refine (impl_matrixOkH ok HV _ _ _ L W0 (HR.out.below B0.out)).mono ?_
    rw [q0]
    rintro e w1 ⟨rfl, b1⟩
    replace D := Lib.hid (D.out.below b1)
    replace Z := Lib.hid (Z.out.below b1)
    replace B0 := Lib.hid (B0.out.trans (b1.mono B0.out.size))
    clear b1 d0 d1 d2
    have z0 := Z.out.c0
    have z1 := Z.out.c1
    have z2 := Z.out.c2
    have y0 := Z.out.f 0
    have y1 := Z.out.f 1
    have y2 := Z.out.f 2
    have V9 := Lib.hid (OwnV.set3_b3 (OwnV.nil _ w.heap.size) Z.out (by decide) (by decide) (.int .i64 0) (.int .i64 0) (.slice none 0 0))
    have B9 := Lib.hid (((B0.out.setCell (p := ⟨w.heap.size + 1, 0, none⟩) (by simp) (.int .i64 0)).setCell (p := ⟨w.heap.size + 1, 1, none⟩) (by simp) (.int .i64 0)).setCell (p := ⟨w.heap.size + 1, 2, none⟩) (by simp) (.slice none 0 0))
    have D8 := Z.out.set3 (.int .i64 0) (.int .i64 0) (.slice none 0 0)
    have hc0 := D8.c0; have hc1 := D8.c1; have hc2 := D8.c2
    clear D8
    go_wp2_with fail
    refine ⟨.agg #[.int .i64 0, .int .i64 0, .slice none 0 0], ?_, ?_⟩
    · simp [results, Try.f15, go_sem, hc0, hc1, hc2]
    · first | exact ⟨_, rfl, ⟨_, V9.out⟩, B9.out⟩ | exact ⟨_, _, rfl, V9.out, B9.out⟩
  | true =>
  obtain ⟨R, C, rfl, rfl, hR, hC, hLn, hRC, hE⟩ := matB_parts q0
  rw [HN.out] at hLn
  have HLN := Lib.hid hLn
  have hn9 : n ≤ 576 := by omega
  have HCR := Lib.hid (show n = C * R by rw [hLn, Nat.mul_comm])
  have HE := Lib.hid hE
  have e0 : tpL ok R C L = trM L R C C ∧ tpR ok R C L = C ∧ tpC ok R C L = R := by unfold tpL tpR tpC; rw [q0]; exact ⟨rfl, rfl, rfl⟩
  rw [e0.1, e0.2.1, e0.2.2]
  clear e0 hLn hRC hE
  have d0 := D.out.c0
  have d1 := D.out.c1
  have d2 := D.out.c2
  refine (callsIn_wide (n := 3)).1 ?_
  refine callsIn_of_wp_marks Try.func15 rfl trivial ?_ rfl
  simp only [Try.ntmps15, List.size_toArray, List.length_cons, List.length_nil, Nat.reduceAdd, Nat.reduceSub, Array.replicate_succ, Array.replicate_zero, List.push_toArray, List.append_toArray, List.nil_append, List.cons_append]
  refine wpIn_wide.2 ?_
  go_wp2_with (rw [HW.out])
  refine (impl_matrixOkH ok HV _ _ _ L W0 (HR.out.below B0.out)).mono ?_
  rw [q0]
  rintro e w1 ⟨rfl, b1⟩
  replace D := Lib.hid (D.out.below b1)
  replace Z := Lib.hid (Z.out.below b1)
  replace B0 := Lib.hid (B0.out.trans (b1.mono B0.out.size))
  clear b1 d0 d1 d2
  clear q0
  obtain ⟨h, hh⟩ : ∃ h, w.heap.size = h := ⟨_, rfl⟩
  have HH := Lib.hid hh
  rw [hh] at D Z B0 ⊢
  clear hh
  have ZM := Lib.hid (fun W => make_rats n (by omega) W)
  replace ZM := ZM.out
  have d0 := D.out.c0
  have d1 := D.out.c1
  have d2 := D.out.c2
  go_upto_region 3 with fail
  go_cut [3] from 12 (fun q wc => ∃ g p : Nat, q = .pointer (some ⟨p, 0, none⟩) ∧ h + 1 < g ∧ h + 1 < p ∧ p ≠ g ∧ Hid (B3 wc h 25 (.int .i64 (R : Int)) (.int .i64 (C : Int)) (.slice a n cap)) ∧ Hid (B3 wc (h + 1) 25 (.int .i64 0) (.int .i64 0) (.slice none 0 0)) ∧ Hid (B3 wc p 25 (.int .i64 (C : Int)) (.int .i64 (R : Int)) (.slice (some ⟨g, 0, none⟩) n n)) ∧ Hid (∃ xs, OwnV wc (h + 1 + 1) (.slice (some ⟨g, 0, none⟩) n n) (List.replicate n Fr.zero) xs) ∧ Hid (Below h w wc))
  case first =>
    have HSD := Lib.hid (fun W (hW : Below w1.heap.size w1 W) => D.out.below hW)
    go_region_held3 (fun w' => w'.cell? ⟨h, 0, none⟩ = some (.int .i64 (R : Int)) ∧ w'.cell? ⟨h, 1, none⟩ = some (.int .i64 (C : Int)) ∧ w'.cell? ⟨h, 2, none⟩ = some (.slice a n cap))
      (exact ⟨(HSD.out _ (by first | with_reducible exact Below.refl _ _ | with_reducible exact (Below.refl _ _).drew | with_reducible exact (Below.refl _ _).alloc (Nat.le_refl _) _ | with_reducible exact ((Below.refl _ _).alloc (Nat.le_refl _) _).drew | with_reducible exact ((Below.refl _ _).alloc (Nat.le_refl _) _).alloc (by simp) _ | with_reducible exact (((Below.refl _ _).alloc (Nat.le_refl _) _).alloc (by simp) _).drew | fail)).c0, (HSD.out _ (by first | with_reducible exact Below.refl _ _ | with_reducible exact (Below.refl _ _).drew | with_reducible exact (Below.refl _ _).alloc (Nat.le_refl _) _ | with_reducible exact ((Below.refl _ _).alloc (Nat.le_refl _) _).drew | with_reducible exact ((Below.refl _ _).alloc (Nat.le_refl _) _).alloc (by simp) _ | with_reducible exact (((Below.refl _ _).alloc (Nat.le_refl _) _).alloc (by simp) _).drew | fail)).c1, (HSD.out _ (by first | with_reducible exact Below.refl _ _ | with_reducible exact (Below.refl _ _).drew | with_reducible exact (Below.refl _ _).alloc (Nat.le_refl _) _ | with_reducible exact ((Below.refl _ _).alloc (Nat.le_refl _) _).drew | with_reducible exact ((Below.refl _ _).alloc (Nat.le_refl _) _).alloc (by simp) _ | with_reducible exact (((Below.refl _ _).alloc (Nat.le_refl _) _).alloc (by simp) _).drew | fail)).c2⟩)
      (first | fail | fail)
    all_goals go_wp2_with fail
    all_goals go_meet
    · exact ⟨w1.heap.size, w1.heap.size + 1, rfl, Z.out.lt, by have := Z.out.lt; omega, by omega, Lib.hid (((D.out.alloc _).alloc _).drew), Lib.hid (((Z.out.alloc _).alloc _).drew), Lib.hid (B3.drew (b3_at (B3.new _ _ _ _ _) (by simp))), Lib.hid ⟨_, ((zeroV_own w1 (h + 1 + 1) n (by have := Z.out.lt; omega) (by omega)).alloc _).drew⟩, Lib.hid (((B0.out.alloc (by have := Z.out.lt; omega) _).alloc (by have := Z.out.lt; simp; omega) _).drew)⟩
    · exact ⟨w1.heap.size + 1, w1.heap.size, rfl, by have := Z.out.lt; omega, Z.out.lt, by omega, Lib.hid (((D.out.alloc _).alloc _).drew), Lib.hid (((Z.out.alloc _).alloc _).drew), Lib.hid (((B3.new _ _ _ _ _).alloc _).drew), Lib.hid ⟨_, (by have hz := zeroV_own (w1.alloc (.cells #[.int .i64 (C : Int), .int .i64 (R : Int), .slice (some ⟨w1.heap.size + 1, 0, none⟩) n n] 25)) (h + 1 + 1) n (by have := Z.out.lt; simp; omega) (by omega); rw [World.size_alloc] at hz; exact hz.drew)⟩, Lib.hid (((B0.out.alloc (by have := Z.out.lt; omega) _).alloc (by have := Z.out.lt; simp; omega) _).drew)⟩
  obtain ⟨g, p, rfl, hg1, hp1, hpg, D3, Z3, T3, V3, B3_⟩ := hcut
  clear D Z B0 d0 d1 d2 ZM
  have e0 := D3.out.c0
  have e1 := D3.out.c1
  have e2 := D3.out.c2
  go_wp2_with (go_at_call 51; refine ((callsIn_wide (n := 3)).1 (rows_in Fence.wide _ trivial rfl _ _ _ _)).mono ?_; rintro e w' ⟨rfl, rfl⟩)
  obtain ⟨q, hq⟩ : ∃ q, q = wc.heap.size := ⟨_, rfl⟩
  obtain ⟨W1, hW1⟩ : ∃ x, x = wc.alloc (.cells #[.int .i64 (R : Int), .int .i64 (C : Int), .slice a n cap] 25) := ⟨_, rfl⟩
  have DB := Lib.hid (show B3 W1 q 25 (.int .i64 (R : Int)) (.int .i64 (C : Int)) (.slice a n cap) by rw [hW1, hq]; exact B3.new _ _ _ _ _)
  have Z4 := Lib.hid (show B3 W1 (h + 1) 25 (.int .i64 0) (.int .i64 0) (.slice none 0 0) by rw [hW1]; exact Z3.out.alloc _)
  have T4 := Lib.hid (show B3 W1 p 25 (.int .i64 (C : Int)) (.int .i64 (R : Int)) (.slice (some ⟨g, 0, none⟩) n n) by rw [hW1]; exact T3.out.alloc _)
  have V4 := Lib.hid (show ∃ xs, OwnV W1 (h + 1 + 1) (.slice (some ⟨g, 0, none⟩) n n) (trS L R C [] 0 0) xs by rw [hW1, trS_nil, ← HCR.out]; obtain ⟨xs, hx⟩ := V3.out; exact ⟨xs, hx.alloc _⟩)
  have B4 := Lib.hid (show Below h w W1 by rw [hW1]; exact B3_.out.alloc (by have := B3_.out.size; rw [HH.out] at this; exact this) _)
  have hsq : q < W1.heap.size := by rw [hW1, hq]; simp
  have hqp : p < q := by rw [hq]; exact T3.out.lt
  have hqg : g < q := by rw [hq]; obtain ⟨xs, hx⟩ := V3.out; exact (hx.lt g (.inl rfl)).2
  rw [← hW1, ← hq]
  clear hW1 hq D3 Z3 T3 V3 B3_ e0 e1 e2
  refine (wpIn_wide (n := 3)).1 ?_
  refine wpIn_rangeFunc_ownG rfl (by omega) (gf := 84) (lb := #[.pointer (some ⟨q, 0, none⟩)]) rfl trivial (enters_of Try.func84 (by kernel_rfl) rfl)
    (rows_stops q R C n _ cap (by omega) a hR hC HLN.out hc (by omega) W1 DB.out) (fun h k => KpM.trans h k) (KpM.putObj hsq) (Below.refl _ _) (fun _ => rfl)
    (fun pre W => (B3 W (h + 1) 25 (.int .i64 0) (.int .i64 0) (.slice none 0 0) ∧ B3 W p 25 (.int .i64 (C : Int)) (.int .i64 (R : Int)) (.slice (some ⟨g, 0, none⟩) n n) ∧ (∃ xs, OwnV W (h + 1 + 1) (.slice (some ⟨g, 0, none⟩) n n) (trS L R C (pre.map rix) 0 0) xs) ∧ q < W.heap.size) ∧ Below h w W)
    (fun _ _ _ => False)
    (OwnFrom.and (Own.from (fun s A B row hs hg hr => ⟨b3_own _ _ _ _ _ s A B row hs.1 hg hr, b3_own _ _ _ _ _ s A B row hs.2.1 hg hr, ownV_own _ _ (fun s : List (RowA R) => trS L R C (s.map rix) 0 0) s A B row hs.2.2.1 hg hr, Nat.lt_of_lt_of_le hs.2.2.2 hg.size⟩) _) (ownFrom_below (by rw [HH.out]; exact Nat.le_refl _) (by omega)))
    (fun _ _ _ _ _ hs _ _ => hs)
    ⟨⟨Z4.out, T4.out, V4.out, hsq⟩, B4.out⟩
    (fun y => { tmps := #[.agg #[.int .i64 (R : Int), .int .i64 (C : Int), .slice a n cap], .pointer (some ⟨h, 0, none⟩), .pointer (some ⟨h + 1, 0, none⟩), .pointer (some ⟨p, 0, none⟩), .int .i64 (y.1 : Int), rowV a C y.1, undef, undef, .agg #[.int .i64 (R : Int), .int .i64 (C : Int), .slice a n cap], .bool true, .bool false, undef, u12, u13, u14, u15, u16, u17, u18, u19, u20, .agg #[.int .i64 (R : Int), .int .i64 (C : Int), .slice a n cap], .func (.func 84) #[] #[.pointer (some ⟨q, 0, none⟩)], .int .i64 (y.1 : Int), rowV a C y.1, u25, u26, u27, u28, u29, u30, u31, u32, u33, u34, u35, u36, u37, u38, u39, u40], defers := [] }) ?assign ?body ?done ?stop
  case assign =>
    intro l y W K hK
    gi_wp2
    exact hK
  case body =>
    rintro l pre y W ⟨⟨hz, ht, ⟨xs0, hv⟩, hq⟩, hB⟩ _
    have hmap : Hid ((pre ++ [y]).map rix = pre.map rix ++ [y.1]) := by unfold Hid; rw [List.map_append]; rfl
    have hlen := rowX_len HN.out HLN.out y.2
    obtain ⟨a2, cap2, hrv, g1, g2, hrr⟩ := rats_row HR.out HN.out HLN.out y.2 hC
    have HEL := Lib.hid (show ∀ k (hk : k < (rowX L C y.1).length), elM L C y.1 k = (rowX L C y.1)[k]'hk ∧ ok ((rowX L C y.1)[k]'hk).neg ((rowX L C y.1)[k]'hk).mag ((rowX L C y.1)[k]'hk).den = true by
      intro k hk
      have h1 : y.1 * C + k < L.length := by have := row_in (C := C) y.2; rw [HN.out, HLN.out]; omega
      rw [rowX_at HN.out HLN.out y.2 (by omega) hk h1]
      exact ⟨el_at h1, HE.out _ _⟩)
    have RR := Lib.hid hrr
    have hi := y.2
    rw [hrv]
    obtain ⟨i, hie⟩ : ∃ i, y.1 = i := ⟨_, rfl⟩
    rw [hie] at hi hmap HEL RR hlen ⊢
    obtain ⟨Zr, hZr⟩ : ∃ Zr, Zr = rowX L C i := ⟨_, rfl⟩
    rw [← hZr] at HEL RR hlen ⊢
    rw [hlen]
    obtain ⟨P, hP⟩ : ∃ P, P = pre.map rix := ⟨_, rfl⟩
    rw [← hP] at hmap hv
    have HZ := Lib.hid hlen
    have KZ := Lib.hid hz
    have KT := Lib.hid ht
    have KV := Lib.hid hv
    have KB := Lib.hid hB
    have KQ := Lib.hid hq
    have K00 := Lib.hid (Kept.refl (fun j => j = g) W)
    have V00 := Lib.hid (show OwnV W (h + 1 + 1) (.slice (some ⟨g, 0, none⟩) n n) (trS L R C P i 0) xs0 by rw [trS_start L R C P i 0]; exact hv)
    clear hz ht hv hB hq hrr hrv hie hZr hlen hP g1 g2 DB Z4 T4 V4 B4
    gi_wp2_with fail
    gi_loopw [27] (fun kv wi => ∃ (k : Nat) (xs : List (Value × Value)), k ≤ C ∧ kv = .int .i64 k ∧ Hid (OwnV wi (h + 1 + 1) (.slice (some ⟨g, 0, none⟩) n n) (trS L R C P i k) xs) ∧ Hid (Kept (fun j => j = g) W wi)) (fun kv _ => C - (intOf kv).toNat)
    case atStart => exact ⟨0, xs0, Nat.zero_le _, rfl, V00, K00⟩
    case round =>
      clear V00 K00
      obtain ⟨k, xs, hk, rfl, V, K⟩ := hrel
      by_cases hlt : k < C
      · have hk0 : k < Zr.length := by rw [HZ.out]; exact hlt
        obtain ⟨b, o, x, y', rfl, k0, k1, k2, hrr⟩ := RR.out k hk0
        have hgW := (KV.out.lt g (.inl rfl))
        have BW := Lib.hid (show Below h w wr from below_kept KB.out K.out (by have := KQ.out; omega) (fun j e => by omega))
        have kb0 := World.block_lt_of_cell? w _ k0
        rw [HH.out] at kb0
        have c0 := (BW.out.cell kb0).trans k0
        have c1 := (BW.out.cell (p := ⟨b, o + k * 3 + 1, none⟩) kb0).trans k1
        have c2 := (BW.out.cell (p := ⟨b, o + k * 3 + 2, none⟩) kb0).trans k2
        have HF := Lib.hid (HEL.out k hk0)
        obtain ⟨f, hf⟩ : ∃ f, f = Zr[k]'hk0 := ⟨_, rfl⟩
        rw [← hf] at hrr c0 HF
        obtain ⟨a1, r1, a3, r3, rfl, rfl, hz1, hz2⟩ := rowR_len hrr
        have HRR := Lib.hid (hrr.below (by rw [HH.out]; exact BW.out))
        have HT := Lib.hid (KT.out.keptK K.out hpg)
        have hxs := V.out.len
        rw [trS_len] at hxs
        have HXS := Lib.hid hxs
        have L9 := Lib.hid V.out.lt
        clear k0 k1 k2 kb0 hf hrr RR hxs
        gi_upto_region 10 with fail
        clear c0 c1 c2
        obtain ⟨W5, hW5⟩ : ∃ x, x = wr.alloc (.cells #[.bool f.neg, .slice a1 f.mag.length r1, .slice a3 f.den.length r3] 42) := ⟨_, rfl⟩
        obtain ⟨e7, he7⟩ : ∃ x, x = wr.heap.size := ⟨_, rfl⟩
        have b5 := (show Below wr.heap.size wr W5 by rw [hW5]; exact (Below.refl _ _).alloc (Nat.le_refl _) _)
        have F5 := Lib.hid (show B3 W5 e7 42 (.bool f.neg) (.slice a1 f.mag.length r1) (.slice a3 f.den.length r3) by rw [hW5, he7]; exact B3.new _ _ _ _ _)
        have T5 := Lib.hid (HT.out.below b5)
        have V5 := Lib.hid (V.out.below b5)
        have R5 := Lib.hid (HRR.out.below b5)
        have K5 := Lib.hid (K.out.trans (Kept.of_below b5))
        have S5 := Lib.hid (show e7 < W5.heap.size by rw [hW5, he7]; simp)
        have S7 := Lib.hid he7
        rw [← hW5, ← he7]
        clear hW5 he7 b5 V K HT HRR BW
        have hkR : k * R + i < C * R := by have := row_in (C := R) hlt; omega
        have HKR := Lib.hid hkR
        have hRR : R * C ≤ 576 := by rw [← HLN.out]; exact hn9
        have hkr2 := row_in (C := R) hlt
        have HROW := Lib.hid (fun W' (hW : Below W5.heap.size W5 W') => (callsIn_wide (n := 0)).2 ((impl_row (C : Int) R k n (some ⟨g, 0, none⟩) n W' (by rw [HCR.out]; exact hkr2) hn9 hR (by omega) (Nat.le_refl _) (by omega)).mono (R' := fun e w' => e = .returned (rowV (some ⟨g, 0, none⟩) R k) ∧ Below W5.heap.size W5 w') (fun e w' ⟨he, hb⟩ => ⟨he, hW.trans (hb.mono hW.size)⟩)))
        rw [rowV_some (by omega), Nat.zero_add] at HROW
        have HCL := Lib.hid (fun W' (hW : Below W5.heap.size W5 W') => (callsIn_wide (n := 0)).2 ((HC f HF.out.2 _ _ W' (R5.out.below hW)).mono (R' := fun e w' => ∃ a_c c_c e_c f_c, e = .returned (.agg #[.bool f.neg, .slice a_c f.mag.length c_c, .slice e_c f.den.length f_c]) ∧ OwnR w' W5.heap.size (.slice a_c f.mag.length c_c) f.mag (.slice e_c f.den.length f_c) f.den ∧ Below W5.heap.size W5 w') (fun e w' ⟨x, y, he, ho, hb⟩ => by
          obtain ⟨a_c, c_c, e_c, f_c, rfl, rfl⟩ := ho.slices
          exact ⟨a_c, c_c, e_c, f_c, he, ho.base hW.size, hW.trans (hb.mono hW.size)⟩)))
        obtain ⟨lk, hlk⟩ : ∃ lk, k * R * 3 = lk := ⟨_, rfl⟩
        have hlk2 : (k * R + i) * 3 = lk + i * 3 := by omega
        rw [hlk] at HROW
        have HLK := Lib.hid hlk2
        have HV5 := Lib.hid (fun W' (hW : Below W5.heap.size W5 W') => V5.out.below hW)
        have HST := Lib.hid (show ∀ W' : World, Below W5.heap.size W5 W' → ((∃ u0, W'.cell? ⟨g, lk + i * 3, none⟩ = some u0) ∧ (∃ u1, W'.cell? ⟨g, lk + i * 3 + 1, none⟩ = some u1) ∧ (∃ u2, W'.cell? ⟨g, lk + i * 3 + 2, none⟩ = some u2)) ∧ W'.frozen? ⟨g, lk + i * 3, none⟩ = false ∧ W'.frozen? ⟨g, lk + i * 3 + 1, none⟩ = false ∧ W'.frozen? ⟨g, lk + i * 3 + 2, none⟩ = false from fun W' hW => by
          have OK := HV5.out W' hW
          obtain ⟨s0, s1, s2⟩ := OK.cells (k * R + i) (by rw [trS_len]; exact HKR.out) (by rw [HXS.out]; exact HKR.out)
          rw [HLK.out] at s0 s1 s2
          exact ⟨⟨⟨_, s0⟩, ⟨_, s1⟩, ⟨_, s2⟩⟩, OK.frozen _, OK.frozen _, OK.frozen _⟩)
        have HT5 := Lib.hid (fun W' (hW : Below W5.heap.size W5 W') => T5.out.below hW)
        have HF5 := Lib.hid (fun W' (hW : Below W5.heap.size W5 W') => F5.out.below hW)
        have t0 := (T5.out.drew).c0
        have t1 := (T5.out.drew).c1
        have t2 := (T5.out.drew).c2
        have f0 := (F5.out.drew).c0
        have f1 := (F5.out.drew).c1
        have f2 := (F5.out.drew).c2
        clear hkR hRR hkr2 hlk hlk2
        have FIN := Lib.hid (show ∀ (w_c : World) (a_c : Option Addr) (c_c : Nat) (e_c : Option Addr) (f_c : Nat), OwnR w_c W5.heap.size (.slice a_c f.mag.length c_c) f.mag (.slice e_c f.den.length f_c) f.den → Below W5.heap.size W5 w_c →
            ∃ xs', Hid (OwnV (((w_c.setCell ⟨g, lk + i * 3, none⟩ (.bool f.neg)).setCell ⟨g, lk + i * 3 + 1, none⟩ (.slice a_c f.mag.length c_c)).setCell ⟨g, lk + i * 3 + 2, none⟩ (.slice e_c f.den.length f_c)) (h + 1 + 1) (.slice (some ⟨g, 0, none⟩) n n) (trS L R C P i (k + 1)) xs') ∧ Hid (Kept (fun j => j = g) W (((w_c.setCell ⟨g, lk + i * 3, none⟩ (.bool f.neg)).setCell ⟨g, lk + i * 3 + 1, none⟩ (.slice a_c f.mag.length c_c)).setCell ⟨g, lk + i * 3 + 2, none⟩ (.slice e_c f.den.length f_c))) from fun w_c a_c c_c e_c f_c o_c bb_c => by
          have lr := o_c.lt
          have L5 := V5.out.lt
          have hg5 := (L5 g (.inl rfl)).2
          have hl5 := S5.out
          have hs7 : h + 1 + 1 ≤ W5.heap.size := by omega
          have O3 := (HV5.out _ bb_c).set3 (k * R + i) f _ _ (by rw [trS_len]; exact HKR.out) (OwnR.base o_c hs7) (fun j hj _ a a' h1 h2 => by have h3 := (L5 a (.inr ⟨_, List.getElem_mem hj, h1⟩)).2; have h4 := (lr a' h2).1; omega) (fun a h2 => by have h4 := (lr a h2).1; omega)
          have HEF : elM L C i k = f := HF.out.1
          rw [← HEF, ← trS_step hi hlt, HEF, HLK.out] at O3
          exact ⟨_, O3, (K5.out.trans (Kept.of_below bb_c)).trans (((kept_set _ _ _ _).trans (kept_set _ _ _ _)).trans (kept_set _ _ _ _))⟩)
        gi_region_with (first
          | ((try refine ⟨trivial, ?_⟩); gi_at_call 54; refine ((HROW.out _ (Below.refl _ _).drew).inRound l).mono ?_; rintro e w_a ⟨rfl, bb_a⟩; have X9 := HF5.out _ bb_a; have p0 := X9.c0; have p1 := X9.c1; have p2 := X9.c2)
          | ((try refine ⟨trivial, ?_⟩); gi_at_call 53; refine ((HCL.out _ bb_a).inRound l).mono ?_; rintro e w_c ⟨a_c, c_c, e_c, f_c, rfl, o_c, bb_c⟩; obtain ⟨⟨⟨v0, s0⟩, ⟨v1, s1⟩, ⟨v2, s2⟩⟩, m0, m1, m2⟩ := HST.out _ bb_c))
        all_goals have FIN2 := FIN.out _ _ _ _ _ o_c bb_c
        all_goals clear FIN HST HV5 HCL HROW V5 K5 T5 F5 R5 t0 t1 t2 f0 f1 f2 HT5 HF5 s0 s1 s2 m0 m1 m2 p0 p1 p2 o_c
        all_goals generalize (((w_c.setCell ⟨g, lk + i * 3, none⟩ (.bool f.neg)).setCell ⟨g, lk + i * 3 + 1, none⟩ (.slice a_c f.mag.length c_c)).setCell ⟨g, lk + i * 3 + 2, none⟩ (.slice e_c f.den.length f_c)) = w6 at FIN2 ⊢
        all_goals obtain ⟨xs', V6, K6⟩ := FIN2
        all_goals gi_wp2_with fail
        all_goals go_roundw
        all_goals (first | exact ⟨k + 1, xs', by omega, by go_num, V6, K6⟩ | (simp [intOf]; omega))
      · obtain rfl : k = C := by omega
        rw [trS_end L R k P i 0, ← hmap.out] at V
        have hgW := (KV.out.lt g (.inl rfl))
        have BW := Lib.hid (show Below h w wr from below_kept KB.out K.out (by have := KQ.out; omega) (fun j e => by omega))
        obtain ⟨og, hog, hogc⟩ := KV.out.isCells g (.inl rfl)
        have HKO := Lib.hid (K.out.others hog hogc)
        gi_wp2_with fail
        exact ⟨HKO.out.from _, K.out.block q KQ.out (by omega), ⟨KZ.out.keptK K.out (by omega), KT.out.keptK K.out hpg, ⟨xs, V.out⟩, Nat.lt_of_lt_of_le KQ.out K.out.size⟩, BW.out⟩
  case done =>
    rintro D ys W hD hS ⟨⟨hz, ht, ⟨xs0, hv⟩, hq⟩, hB⟩ hK
    rw [hS, trS_all] at hv
    have KZ := Lib.hid hz
    have KV := Lib.hid hv
    have KB := Lib.hid hB
    have HK := Lib.hid hK
    have HDD := Lib.hid hD
    have t0 := ht.c0
    have t1 := ht.c1
    have t2 := ht.c2
    have z0 := hz.c0
    have z1 := hz.c1
    have z2 := hz.c2
    have y0 := hz.f 0
    have y1 := hz.f 1
    have y2 := hz.f 2
    clear hS hz ht hv hB hK hD hq
    go_wp2
    have hK' := (((KeepsOthers.setCell W ⟨h + 1, 0, none⟩ (.int .i64 (C : Int))).trans (KeepsOthers.setCell _ ⟨h + 1, 1, none⟩ (.int .i64 (R : Int)))).trans (KeepsOthers.setCell _ ⟨h + 1, 2, none⟩ (.slice (some ⟨g, 0, none⟩) n n))).same D _ HK.out rfl
    have D8 := b3_shut (KZ.out.set3 (.int .i64 (C : Int)) (.int .i64 (R : Int)) (.slice (some ⟨g, 0, none⟩) n n)) hK'
    have hc0 := D8.c0
    have hc1 := D8.c1
    have hc2 := D8.c2
    have hBl := ((KB.out.setCell (p := ⟨h + 1, 0, none⟩) (by simp) (.int .i64 (C : Int))).setCell (p := ⟨h + 1, 1, none⟩) (by simp) (.int .i64 (R : Int))).setCell (p := ⟨h + 1, 2, none⟩) (by simp) (.slice (some ⟨g, 0, none⟩) n n)
    have V9 := ownV_shut (KV.out.set3_b3 KZ.out (by decide) (by decide) (.int .i64 (C : Int)) (.int .i64 (R : Int)) (.slice (some ⟨g, 0, none⟩) n n)) hK'
    refine ⟨by simp, .inl ⟨_, _, rfl, run_takeDeferred hK', ?_⟩⟩
    refine ⟨.agg #[.int .i64 (C : Int), .int .i64 (R : Int), .slice (some ⟨g, 0, none⟩) n n], ?_, ?_⟩
    · simp [results, Try.f15, go_sem, hc0, hc1, hc2]
    · have B9 := below_shut hBl (by have := HDD.out; omega : h ≤ D) (by have := hBl.size; rw [HH.out] at this; exact this)
      rw [HH.out]
      first | exact ⟨_, rfl, ⟨_, V9.base (by omega)⟩, B9⟩ | exact ⟨_, _, rfl, V9.base (by omega), B9⟩
  case stop =>
    rintro D c pre W hD _ hf _
    exact hf.elim

end Go.Proofs.Ytojklmckjebplaa
