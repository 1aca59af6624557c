/- A valid matrix times a valid vector, in the program. -/
import Derived.Test.YtojklmckjebplaaMatItr
import Derived.Test.YtojklmckjebplaaMatp
import Derived.Test.YtojklmckjebplaaVecInner
namespace Go.Proofs.Ytojklmckjebplaa
open Go.RowKit Go.WideShapes Go.ChangeShapes Go.Shelf
set_option linter.unusedVariables false
set_option linter.unusedSimpArgs false
attribute [local go_sem] Oper.semAt_some
theorem boxed_keptK {W W' : World} {S : Nat → Prop} {B : Nat} {t : TypeId} {v : Value} (h : Boxed W B t v) (hk : Kept S W W') (hn : ¬ S B) : Boxed W' B t v := (hk.block B h.lt hn).trans h
def apS (L : List Fr) (C R : Nat) (V : List Fr) (pre : List Nat) : List Fr := (List.range R).map (fun i => if i ∈ pre then innV (rowX L C i) V else Fr.zero)
theorem apS_len (L : List Fr) (C R : Nat) (V : List Fr) (pre : List Nat) : (apS L C R V pre).length = R := by simp [apS]
theorem apS_get {L : List Fr} {C R : Nat} {V : List Fr} {pre : List Nat} {i : Nat} (h : i < (apS L C R V pre).length) : (apS L C R V pre)[i]'h = if i ∈ pre then innV (rowX L C i) V else Fr.zero := by simp [apS]
theorem apS_nil (L : List Fr) (C R : Nat) (V : List Fr) : apS L C R V [] = List.replicate R Fr.zero := by
  apply List.ext_getElem (by simp [apS])
  intro p h1 h2
  rw [apS_get]; simp
theorem apS_step {L : List Fr} {C R : Nat} {V : List Fr} {pre : List Nat} {i : Nat} (hi : i < R) : apS L C R V (pre ++ [i]) = (apS L C R V pre).set i (innV (rowX L C i) V) := by
  apply List.ext_getElem (by simp [apS])
  intro p h1 h2
  rw [List.getElem_set, apS_get]
  by_cases e : i = p
  · subst e; simp
  · rw [if_neg e, apS_get]
    have : (p ∈ pre ++ [i]) ↔ p ∈ pre := by simp; intro h; omega
    simp only [this]
theorem apS_all (L : List Fr) (C R : Nat) (V : List Fr) : apS L C R V (List.range R) = apL innV L C V R := by
  unfold apS apL
  apply List.map_congr_left
  intro i hi
  rw [if_pos hi]; rfl
theorem zip_all {A B : List Fr} (h : pairOk A B = true) (hf : fineV (zipF mulX A B) = true) : ∀ k (hk : k < (zipF mulX A B).length), okF ((zipF mulX A B)[k]'hk) = true := by
  intro k hk
  have hl : (zipF mulX A B).length = min A.length B.length := by unfold zipF; simp
  have h0 : k < A.length := by omega
  have h1 : k < B.length := by omega
  have hb := List.all_eq_true.1 hf _ (List.getElem_mem hk)
  have he := pair_elem h k h0 h1
  rw [zip_at h0 h1 hk] at hb ⊢
  exact ok_of (ok_mul he.1 he.2) (by simpa using hb)
theorem apL_bad {L : List Fr} {C R : Nat} {V : List Fr} {i : Nat} (hi : i < R) (hb : badF (innV (rowX L C i) V) = true) : fineV (apL innV L C V R) = false := by
  have hl : (apL innV L C V R).length = R := by unfold apL; simp
  refine all_no (k := i) (by rw [hl]; exact hi) ?_
  have e : (apL innV L C V R)[i]'(by rw [hl]; exact hi) = innV (rowX L C i) V := by unfold apL; simp; rfl
  rw [e, hb]; rfl
theorem apL_fine {R : Nat} {L : List Fr} {C : Nat} {V : List Fr} {ys : List (RowA R)} (hy : ys.map rix = List.range R) (h : ∀ x ∈ ys, badF (innV (rowX L C (rix x)) V) = false) : fineV (apL innV L C V R) = true := by
  unfold fineV apL
  rw [List.all_eq_true]
  intro f hf
  obtain ⟨i, hi, rfl⟩ := List.mem_map.1 hf
  rw [← hy] at hi
  obtain ⟨x, hx, rfl⟩ := List.mem_map.1 hi
  have := h x hx
  simp only [Bool.not_eq_true']
  exact this
def apR (L : List Fr) (C : Nat) (V : List Fr) (R : Nat) : List Fr := if fineV (apL innV L C V R) then apL innV L C V R else []

set_option maxRecDepth 100000 in
set_option maxHeartbeats 4000000 in
theorem impl_apply (R C n : Nat) (a : Option Addr) (cap : Nat) (L : List Fr) (u : Value) (V : List Fr) (w : World) (h : RatsAt w (.slice a n cap) L) (h' : RatsAt w u V) (hR : R ≤ 24) (hC : C ≤ 24) (hn : n ≤ 576) (hLn : L.length = n) (hRC : n = R * C) (hV : V.length = C)
    (hE : ∀ k (hk : k < L.length), okF (L[k]'hk) = true) (hE' : ∀ k (hk : k < V.length), okF (V[k]'hk) = true) :
    Calls Try.prog 52 #[.agg #[.int .i64 (R : Int), .int .i64 (C : Int), .slice a n cap], u] w fun e w' => ∃ v xs, e = .returned (.tuple #[v, .bool (fineV (apL innV L C V R))]) ∧ OwnV w' w.heap.size v (apR L C V R) xs ∧ Below w.heap.size w w' ∧ (fineV (apL innV L C V R) = true → ∃ g, v = .slice (some ⟨g, 0, none⟩) R R) := by
  have HR := Lib.hid h
  have HR' := Lib.hid h'
  obtain ⟨_, _, he, hcap, hcm, _⟩ := h
  injection he with e1 e2 e3
  subst e1 e3
  unfold maxLen at hcm
  rw [hLn] at hcap
  have HN := Lib.hid hLn
  have HRC := Lib.hid hRC
  have HVL := Lib.hid hV
  have HE := Lib.hid hE
  have HE' := Lib.hid hE'
  obtain ⟨a', cap', rfl, hc1', hc2'⟩ := ratsAt_form h'
  rw [hV] at HR' hc1' ⊢
  clear h' hLn hRC hV hE hE' e2
  rename_i hrows9
  clear hrows9
  obtain ⟨x, hx⟩ : ∃ x, x = fineV (apL innV L C V R) := ⟨_, rfl⟩
  obtain ⟨X, hX⟩ : ∃ X, X = apR L C V R := ⟨_, rfl⟩
  rw [← hx, ← hX]
  have HX := Lib.hid (And.intro hx hX)
  clear hx hX
  obtain ⟨h, hh⟩ : ∃ h, w.heap.size = h := ⟨_, rfl⟩
  obtain ⟨W0, hW0⟩ : ∃ x, x = (((w.alloc (.cells #[.int .i64 (R : Int), .int .i64 (C : Int), .slice a n cap] 25)).alloc (.cells #[.slice a' C cap'] 23)).alloc (.cells #[.slice none 0 0] 23)).alloc (.cells #[.bool false] 4) := ⟨_, rfl⟩
  have D := Lib.hid (show B3 W0 h 25 (.int .i64 (R : Int)) (.int .i64 (C : Int)) (.slice a n cap) by rw [hW0, ← hh]; exact (((B3.new _ _ _ _ _).alloc _).alloc _).alloc _)
  have VB := Lib.hid (show Boxed W0 (h + 1) 23 (.slice a' C cap') by rw [hW0, ← hh]; have hb := ((Boxed.new (w.alloc (.cells #[.int .i64 (R : Int), .int .i64 (C : Int), .slice a n cap] 25)) 23 (.slice a' C cap')).alloc (.cells #[.slice none 0 0] 23)).alloc (.cells #[.bool false] 4); simp only [World.size_alloc] at hb; exact hb)
  have Z1 := Lib.hid (show Boxed W0 (h + 1 + 1) 23 (.slice none 0 0) by rw [hW0, ← hh]; have hb := (Boxed.new ((w.alloc (.cells #[.int .i64 (R : Int), .int .i64 (C : Int), .slice a n cap] 25)).alloc (.cells #[.slice a' C cap'] 23)) 23 (.slice none 0 0)).alloc (.cells #[.bool false] 4); simp only [World.size_alloc] at hb; exact hb)
  have Z2 := Lib.hid (show Boxed W0 (h + 1 + 1 + 1) 4 (.bool false) by rw [hW0, ← hh]; have hb := Boxed.new (((w.alloc (.cells #[.int .i64 (R : Int), .int .i64 (C : Int), .slice a n cap] 25)).alloc (.cells #[.slice a' C cap'] 23)).alloc (.cells #[.slice none 0 0] 23)) 4 (.bool false); simp only [World.size_alloc] at hb; exact hb)
  have B0 := Lib.hid (show Below h w W0 by rw [hW0, ← hh]; exact ((((Below.refl _ _).alloc (Nat.le_refl _) _).alloc (by simp) _).alloc (by simp; omega) _).alloc (by simp; omega) _)
  have hs0 : W0.heap.size = h + 1 + 1 + 1 + 1 := by rw [hW0, ← hh]; simp
  have HW := Lib.hid hW0.symm
  have HH := Lib.hid hh
  clear hW0
  obtain ⟨g, hg⟩ : ∃ g, g = h + 1 + 1 + 1 + 1 := ⟨_, rfl⟩
  have HM := make_rats R (by omega) W0
  obtain ⟨W2, hW2⟩ : ∃ x, x = W0.alloc (zeroV R) := ⟨_, rfl⟩
  have V2 := Lib.hid (show ∃ xs, OwnV W2 g (.slice (some ⟨g, 0, none⟩) R R) (apS L C R V []) xs by rw [hW2, apS_nil, hg, ← hs0]; exact ⟨_, zeroV_own W0 W0.heap.size R (Nat.le_refl _) (by omega)⟩)
  have hs2 : W2.heap.size = g + 1 := by rw [hW2, hg]; simp [hs0]
  have D2 := Lib.hid ((show B3 W2 h 25 (.int .i64 (R : Int)) (.int .i64 (C : Int)) (.slice a n cap) by rw [hW2]; exact D.out.alloc _).alloc (.cells #[.slice (some ⟨g, 0, none⟩) R R] 23))
  rw [← hW2, hs0, ← hg] at HM
  have d0 := D.out.c0
  have f0 := D2.out.c0
  have f1 := D2.out.c1
  have f2 := D2.out.c2
  rw [hh]
  have HG := Lib.hid hg
  have HS2 := Lib.hid hs2
  have B2 := Lib.hid (show Below h w W2 by rw [hW2]; exact B0.out.alloc (by omega) _)
  have VB2 := Lib.hid (show Boxed W2 (h + 1) 23 (.slice a' C cap') by rw [hW2]; exact VB.out.alloc _)
  have Z12 := Lib.hid (show Boxed W2 (h + 1 + 1) 23 (.slice none 0 0) by rw [hW2]; exact Z1.out.alloc _)
  have Z22 := Lib.hid (show Boxed W2 (h + 1 + 1 + 1) 4 (.bool false) by rw [hW2]; exact Z2.out.alloc _)
  clear hg hW2 hs0 VB Z1 Z2 B0
  refine (callsIn_wide (n := 3)).1 ?_
  refine callsIn_of_wp_marks Try.func52 rfl trivial ?_ rfl
  simp only [Try.ntmps52, List.size_toArray, List.length_cons, List.length_nil, Nat.reduceAdd, Nat.reduceSub, Array.replicate_succ, Array.replicate_zero, List.push_toArray, List.append_toArray, List.nil_append, List.cons_append]
  refine wpIn_wide.2 ?_
  go_wp2_with (rw [HW.out])
  go_wp2_with (go_at_call 51; refine ((callsIn_wide (n := 3)).1 (rows_in Fence.wide _ trivial rfl _ _ _ _)).mono ?_; rintro e w' ⟨rfl, rfl⟩)
  obtain ⟨W4, hW4⟩ : ∃ x, x = (W2.alloc (.cells #[.slice (some ⟨g, 0, none⟩) R R] 23)).alloc (.cells #[.int .i64 (R : Int), .int .i64 (C : Int), .slice a n cap] 25) := ⟨_, rfl⟩
  have DB := Lib.hid (show B3 W4 (g + 1 + 1) 25 (.int .i64 (R : Int)) (.int .i64 (C : Int)) (.slice a n cap) by rw [hW4]; exact b3_at (B3.new _ _ _ _ _) (by simp [hs2]))
  have LB := Lib.hid (show Boxed W4 (g + 1) 23 (.slice (some ⟨g, 0, none⟩) R R) by rw [hW4, ← hs2]; exact (Boxed.new W2 23 (.slice (some ⟨g, 0, none⟩) R R)).alloc _)
  have VB4 := Lib.hid (show Boxed W4 (h + 1) 23 (.slice a' C cap') by rw [hW4]; exact (VB2.out.alloc _).alloc _)
  have Z14 := Lib.hid (show Boxed W4 (h + 1 + 1) 23 (.slice none 0 0) by rw [hW4]; exact (Z12.out.alloc _).alloc _)
  have Z24 := Lib.hid (show Boxed W4 (h + 1 + 1 + 1) 4 (.bool false) by rw [hW4]; exact (Z22.out.alloc _).alloc _)
  have V4 := Lib.hid (show ∃ xs, OwnV W4 g (.slice (some ⟨g, 0, none⟩) R R) (apS L C R V []) xs by obtain ⟨xs, hx⟩ := V2.out; rw [hW4]; exact ⟨xs, (hx.alloc _).alloc _⟩)
  have hgh := HG.out
  have B4 := Lib.hid (show Below h w W4 by rw [hW4]; exact (B2.out.alloc (by omega) _).alloc (by simp; omega) _)
  have hsq : g + 1 + 1 < W4.heap.size := by rw [hW4]; simp [hs2]
  rw [← hW4]
  clear hgh hW4 d0 f0 f1 f2 VB2 Z12 Z22 V2 B2 D D2 HM HW HS2 hs2
  refine (wpIn_wide (n := 3)).1 ?_
  refine wpIn_rangeFunc_ownG rfl (by omega) (gf := 84) (lb := #[.pointer (some ⟨g + 1 + 1, 0, none⟩)]) rfl trivial (enters_of Try.func84 (by kernel_rfl) rfl)
    (rows_stops (g + 1 + 1) R C n _ cap (by omega) a hR hC HRC.out hcap (by omega) W4 DB.out) (fun h k => KpM.trans h k) (KpM.putObj hsq) (Below.refl _ _) (fun _ => rfl)
    (fun pre W => (Boxed W (h + 1) 23 (.slice a' C cap') ∧ Boxed W (h + 1 + 1) 23 (.slice none 0 0) ∧ Boxed W (h + 1 + 1 + 1) 4 (.bool false) ∧ Boxed W (g + 1) 23 (.slice (some ⟨g, 0, none⟩) R R) ∧ (∃ xs, OwnV W g (.slice (some ⟨g, 0, none⟩) R R) (apS L C R V (pre.map rix)) xs) ∧ (∀ x ∈ pre, badF (innV (rowX L C (rix x)) V) = false) ∧ g + 1 + 1 < W.heap.size) ∧ Below h w W)
    (fun c pre W => (c = .ret ∧ Boxed W (h + 1 + 1) 23 (.slice none 0 0) ∧ Boxed W (h + 1 + 1 + 1) 4 (.bool false) ∧ fineV (apL innV L C V R) = false) ∧ Below h w W)
    (OwnFrom.and (Own.from (fun s A B row hs hg hr => ⟨boxed_own _ _ (fun _ : List (RowA R) => _) s A B row hs.1 hg hr, boxed_own _ _ (fun _ : List (RowA R) => _) s A B row hs.2.1 hg hr, boxed_own _ _ (fun _ : List (RowA R) => _) s A B row hs.2.2.1 hg hr, boxed_own _ _ (fun _ : List (RowA R) => _) s A B row hs.2.2.2.1 hg hr, ownV_own _ _ (fun s : List (RowA R) => apS L C R V (s.map rix)) s A B row hs.2.2.2.2.1 hg hr, hs.2.2.2.2.2.1, Nat.lt_of_lt_of_le hs.2.2.2.2.2.2 hg.size⟩) _) (ownFrom_below (by rw [hh]; exact Nat.le_refl _) (by have := HG.out; omega)))
    (fun c => OwnFrom.and (Own.from (fun s A B row hs hg hr => ⟨hs.1, boxed_own _ _ (fun _ : List (RowA R) => _) s A B row hs.2.1 hg hr, boxed_own _ _ (fun _ : List (RowA R) => _) s A B row hs.2.2.1 hg hr, hs.2.2.2⟩) _) (ownFrom_below (by rw [hh]; exact Nat.le_refl _) (by have := HG.out; omega)))
    ⟨⟨VB4.out, Z14.out, Z24.out, LB.out, V4.out, (fun x hx => by simp at hx), hsq⟩, B4.out⟩
    (fun y => { tmps := #[.agg #[.int .i64 (R : Int), .int .i64 (C : Int), .slice a n cap], .slice a' C cap', .pointer (some ⟨h, 0, none⟩), .pointer (some ⟨h + 1, 0, none⟩), .pointer (some ⟨h + 1 + 1, 0, none⟩), .pointer (some ⟨h + 1 + 1 + 1, 0, none⟩), .pointer (some ⟨g + 1, 0, none⟩), .int .i64 (y.1 : Int), rowV a C y.1, undef, undef, .pointer (some ⟨h, 0, none⟩), .int .i64 (R : Int), .slice (some ⟨g, 0, none⟩) R R, .agg #[.int .i64 (R : Int), .int .i64 (C : Int), .slice a n cap], .func (.func 84) #[] #[.pointer (some ⟨g + 1 + 1, 0, none⟩)], .int .i64 (y.1 : Int), rowV a C y.1, undef, undef, undef, undef, undef, undef, undef, undef, undef, undef, undef, undef, undef, undef, undef, undef, undef, undef, undef], defers := [] }) ?assign ?body ?done ?stop
  case assign =>
    intro l y W K hK
    gi_wp2
    exact hK
  case body =>
    rintro l pre y W ⟨⟨hv, hz1, hz2, hlb, ⟨xs, hV⟩, hall, hsz⟩, hB⟩ _
    have hmap : Hid ((pre ++ [y]).map rix = pre.map rix ++ [y.1]) := by unfold Hid; rw [List.map_append]; rfl
    have hlen := rowX_len HN.out HRC.out y.2
    have hrr := rats_row (HR.out.below (by rw [hh]; exact hB)) HN.out HRC.out y.2 hC
    have hvv := HR'.out.below (by rw [hh]; exact hB)
    have HEL := (show ∀ k (hk : k < (rowX L C y.1).length), okF ((rowX L C y.1)[k]'hk) = true by
      intro k hk
      have h1 : y.1 * C + k < L.length := by have := row_in (C := C) y.2; rw [HN.out, HRC.out]; omega
      rw [rowX_at HN.out HRC.out y.2 (by omega) hk h1]
      exact HE.out _ _)
    have HPK := Lib.hid (show pairOk (rowX L C y.1) V = true by
      unfold pairOk pairV vecB
      rw [decide_eq_true (show (rowX L C y.1).length ≤ 24 by omega), decide_eq_true (show V.length ≤ 24 by rw [HVL.out]; exact hC), decide_eq_true (show (rowX L C y.1).length = V.length by rw [hlen, HVL.out])]
      rw [List.all_eq_true.2 (fun f hf => by obtain ⟨k, hk, rfl⟩ := List.getElem_of_mem hf; exact HEL k hk), List.all_eq_true.2 (fun f hf => by obtain ⟨k, hk, rfl⟩ := List.getElem_of_mem hf; exact HE'.out k hk)]
      rfl)
    have HCO := Lib.hid ((callsIn_wide (n := 0)).2 (impl_combMul mulX (fun f g hf hg => impl_timesF f g hf hg) _ (rowX L C y.1) _ V W hrr hvv (by rw [hlen, HVL.out]) (by omega) HEL HE'.out))
    have HPB := Lib.hid (show fineV (zipF mulX (rowX L C y.1) V) = false → badF (innV (rowX L C y.1) V) = true from fun hz => by rw [inn_unfine HPK.out hz]; rfl)
    have HZA := Lib.hid (show fineV (zipF mulX (rowX L C y.1) V) = true → ∀ k (hk : k < (zipF mulX (rowX L C y.1) V).length), okF ((zipF mulX (rowX L C y.1) V)[k]'hk) = true from fun hz => zip_all HPK.out hz)
    have HZL := Lib.hid (show (zipF mulX (rowX L C y.1) V).length ≤ 24 by unfold zipF; simp; omega)
    have HAB := Lib.hid (fun hb => apL_bad (L := L) (C := C) (V := V) y.2 hb)
    have HAS := Lib.hid (apS_step (L := L) (C := C) (V := V) (pre := pre.map rix) y.2)
    have hi := y.2
    have HYI := Lib.hid (show rix y = y.1 from rfl)
    obtain ⟨a2, k2, hrv, hk21, hk22⟩ := ratsAt_form hrr
    rw [hlen] at hrv
    rw [hrv] at HCO ⊢
    obtain ⟨Pz, hPz⟩ : ∃ Pz, Pz = zipF mulX (rowX L C y.1) V := ⟨_, rfl⟩
    obtain ⟨S, hSS⟩ : ∃ S, S = innV (rowX L C y.1) V := ⟨_, rfl⟩
    have HSP := Lib.hid (show sumX Pz = S by rw [hPz, hSS]; rfl)
    have HCM := Lib.hid (show cmbL mulX (rowX L C y.1) V = if fineV Pz then Pz else [] by rw [hPz]; rfl)
    rw [HCM.out] at HCO
    rw [← hPz] at HCO HPB HZA HZL
    rw [← hSS] at HPB HAB HAS
    have HBI := Lib.hid (show badF S = false → ∀ x ∈ pre ++ [y], badF (innV (rowX L C (rix x)) V) = false from fun hb x hx => by
      rcases List.mem_append.1 hx with hx | hx
      · exact hall x hx
      · obtain rfl := List.mem_singleton.1 hx
        rw [HYI.out, ← hSS]; exact hb)
    have K0 := Lib.hid hv
    have K1 := Lib.hid hz1
    have K2 := Lib.hid hz2
    have KL := Lib.hid hlb
    have KV := Lib.hid hV
    have KB := Lib.hid hB
    have KS := Lib.hid hsz
    have v0 := hv.cell
    clear hv hz1 hz2 hlb hV hall hsz hB hrr hvv HEL hlen hPz hSS hrv hk21 hk22 HCM HYI
    cases hq : fineV Pz with
    | false =>
      rw [hq] at HCO
      have HF9 := Lib.hid (HAB.out (HPB.out hq))
      clear hq
      gi_wp2_with (refine ⟨trivial, ?_⟩; gi_at_call 78; refine (HCO.out.inRound l).mono ?_; rintro e w2 ⟨x2, ys, rfl, o2, b2⟩; obtain ⟨a9, c9, rfl⟩ := o2.slice; have M1 := K1.out.kept (grown_of_below b2 none) (fun e => by cases e); have M2 := K2.out.kept (grown_of_below b2 none) (fun e => by cases e); have p1 := M1.cell; have p2 := M1.frozen; have q1 := M2.cell; have q2 := M2.frozen)
      refine ⟨((KeepsOthers.of_grownBy (grown_of_below b2 none) (fun j o e => by cases e)).trans ((KeepsOthers.setCell _ _ _).trans (KeepsOthers.setCell _ _ _))).from _, ⟨rfl, (M1.set _).other (by omega) _, (M2.other (by omega) _).set _, HF9.out⟩, ((KB.out.trans (b2.mono (by have := KS.out; have := HG.out; omega))).setCell (p := ⟨h + 1 + 1, 0, none⟩) (by simp; omega) _).setCell (p := ⟨h + 1 + 1 + 1, 0, none⟩) (by simp; omega) _⟩
    | true =>
      rw [hq] at HCO
      have HSU := Lib.hid (fun (v3 : Value) (W' : World) (hr : RatsAt W' v3 Pz) => (callsIn_wide (n := 0)).2 (impl_sumOf v3 Pz W' hr HZL.out (HZA.out hq)))
      rw [HSP.out] at HSU
      obtain ⟨bS, hbS⟩ : ∃ b, b = !badF S := ⟨_, rfl⟩
      rw [← hbS] at HSU
      have HBS := Lib.hid hbS
      clear hq hbS
      gi_upto_region 8 with (refine ⟨trivial, ?_⟩; gi_at_call 78; refine (HCO.out.inRound l).mono ?_; rintro e w2 ⟨x2, ys, rfl, o2, b2⟩; have O2 := Lib.hid o2.rats; obtain ⟨a9, c9, rfl⟩ := o2.slice)
      obtain ⟨P, hP⟩ : ∃ P, P = pre.map rix := ⟨_, rfl⟩
      obtain ⟨i, hie⟩ : ∃ i, i = y.1 := ⟨_, rfl⟩
      rw [← hie] at HAS hi hmap ⊢
      rw [← hP] at HAS hmap KV
      have HAS2 := Lib.hid (show apS L C R V (P ++ [i]) = (apS L C R V P).set i S from HAS.out)
      have HXS := Lib.hid (show xs.length = R by have := KV.out.len; rw [apS_len] at this; exact this)
      have KL2 := Lib.hid (KL.out.kept (grown_of_below b2 none) (fun e => by cases e))
      have KV2 := Lib.hid (KV.out.below b2)
      have KK2 := Lib.hid (Kept.of_below (S := fun j => j = g) b2)
      have HGW := Lib.hid (show g + 1 + 1 < w2.heap.size from Nat.lt_of_lt_of_le KS.out b2.size)
      clear hie hP HCO o2
      have FIN := Lib.hid (show ∀ (w_c : World) (a_c : Option Addr) (c_c : Nat) (e_c : Option Addr) (f_c : Nat), OwnR w_c w2.heap.size (.slice a_c S.mag.length c_c) S.mag (.slice e_c S.den.length f_c) S.den → Below w2.heap.size w2 w_c →
          ∃ xs', Hid (OwnV (((w_c.setCell ⟨g, i * 3, none⟩ (.bool S.neg)).setCell ⟨g, i * 3 + 1, none⟩ (.slice a_c S.mag.length c_c)).setCell ⟨g, i * 3 + 2, none⟩ (.slice e_c S.den.length f_c)) g (.slice (some ⟨g, 0, none⟩) R R) (apS L C R V (P ++ [i])) xs') ∧ Hid (Kept (fun j => j = g) W (((w_c.setCell ⟨g, i * 3, none⟩ (.bool S.neg)).setCell ⟨g, i * 3 + 1, none⟩ (.slice a_c S.mag.length c_c)).setCell ⟨g, i * 3 + 2, none⟩ (.slice e_c S.den.length f_c))) from fun w_c a_c c_c e_c f_c o_c bb_c => by
        have lr := o_c.lt
        have L5 := KV2.out.lt
        have hg5 := (L5 g (.inl rfl)).2
        have O3 := (KV2.out.below bb_c).set3 i S _ _ (by rw [apS_len]; exact hi) (OwnR.base o_c (by omega)) (fun j hj _ a a' h1 h2 => by have h3 := (L5 a (.inr ⟨_, List.getElem_mem hj, h1⟩)).2; have h4 := (lr a' h2).1; omega) (fun a h2 => by have h4 := (lr a h2).1; omega)
        rw [← HAS2.out] at O3
        exact ⟨_, O3, (KK2.out.trans (Kept.of_below bb_c)).trans (((kept_set _ _ _ _).trans (kept_set _ _ _ _)).trans (kept_set _ _ _ _))⟩)
      have HSV := Lib.hid (fun W' (hW : Below w2.heap.size w2 W') => (HSU.out _ W' (O2.out.below hW)).mono (R' := fun e w' => ∃ a_c c_c e_c f_c, e = .returned (.tuple #[.agg #[.bool S.neg, .slice a_c S.mag.length c_c, .slice e_c S.den.length f_c], .bool bS]) ∧ OwnR w' w2.heap.size (.slice a_c S.mag.length c_c) S.mag (.slice e_c S.den.length f_c) S.den ∧ Below w2.heap.size w2 w') (fun e w' ⟨x, y, he, ho, hb⟩ => by
        obtain ⟨a_c, c_c, e_c, f_c, rfl, rfl⟩ := ho.slices
        exact ⟨a_c, c_c, e_c, f_c, he, ho.base hW.size, hW.trans (hb.mono hW.size)⟩))
      have HL2 := Lib.hid (fun W' (hW : Below w2.heap.size w2 W') => KL2.out.kept (grown_of_below hW none) (fun e => by cases e))
      have HV2 := Lib.hid (show ∀ W' : World, Below w2.heap.size w2 W' → ((∃ u0, W'.cell? ⟨g, i * 3, none⟩ = some u0) ∧ (∃ u1, W'.cell? ⟨g, i * 3 + 1, none⟩ = some u1) ∧ (∃ u2, W'.cell? ⟨g, i * 3 + 2, none⟩ = some u2)) ∧ W'.frozen? ⟨g, i * 3, none⟩ = false ∧ W'.frozen? ⟨g, i * 3 + 1, none⟩ = false ∧ W'.frozen? ⟨g, i * 3 + 2, none⟩ = false from fun W' hW => by
        have OK := KV2.out.below hW
        obtain ⟨s0, s1, s2⟩ := OK.cells i (by rw [apS_len]; exact hi) (by rw [HXS.out]; exact hi)
        exact ⟨⟨⟨_, s0⟩, ⟨_, s1⟩, ⟨_, s2⟩⟩, OK.frozen _, OK.frozen _, OK.frozen _⟩)
      have l0 := (HL2.out _ (Below.refl _ _).drew).cell
      clear v0 HAS
      gi_cut [10] from 26 (fun q10 wd => q10 = .bool bS ∧ ∃ xs', Hid (OwnV wd g (.slice (some ⟨g, 0, none⟩) R R) (apS L C R V (P ++ [i])) xs') ∧ Hid (Kept (fun j => j = g) W wd))
      case first =>
        gi_region_with ((try refine ⟨trivial, ?_⟩); gi_at_call 86; refine ((HSV.out _ (Below.refl _ _).drew).inRound l).mono ?_; rintro e w_c ⟨a_c, c_c, e_c, f_c, rfl, o_c, bb_c⟩; have l1 := (HL2.out _ bb_c).cell; obtain ⟨⟨⟨v0, s0⟩, ⟨v1, s1⟩, ⟨v2, s2⟩⟩, m0, m1, m2⟩ := HV2.out _ bb_c)
        all_goals gi_wp2_with fail
        all_goals gi_meet
        all_goals exact ⟨rfl, FIN.out _ _ _ _ _ o_c bb_c⟩
      obtain ⟨rfl, xs', V6, K6⟩ := hcut
      clear FIN HSV HL2 HV2 HSU O2 KL2 KV2 KK2 l0
      generalize wc = w6 at V6 K6 ⊢
      obtain ⟨og, hog, hogc⟩ := KV.out.isCells g (.inl rfl)
      have HKO := Lib.hid (K6.out.others hog hogc)
      have HB6 := Lib.hid (show Below h w w6 from below_kept KB.out K6.out (by have := KS.out; have := HG.out; omega) (fun j e => by have := HG.out; omega))
      clear hog hogc
      cases bS with
      | false =>
        have HF9 := Lib.hid (HAB.out (by have := HBS.out; cases hb : badF S with | true => rfl | false => rw [hb] at this; cases this))
        have M1 := boxed_keptK K1.out K6.out (by have := HG.out; omega)
        have M2 := boxed_keptK K2.out K6.out (by have := HG.out; omega)
        have p1 := M1.cell
        have p2 := M1.frozen
        have q1 := M2.cell
        have q2 := M2.frozen
        gi_wp2_with fail
        exact ⟨(HKO.out.trans ((KeepsOthers.setCell _ _ _).trans (KeepsOthers.setCell _ _ _))).from _, ⟨rfl, (M1.set _).other (by omega) _, (M2.other (by omega) _).set _, HF9.out⟩, (HB6.out.setCell (p := ⟨h + 1 + 1, 0, none⟩) (by simp; omega) _).setCell (p := ⟨h + 1 + 1 + 1, 0, none⟩) (by simp; omega) _⟩
      | true =>
        have HF9 := Lib.hid (HBI.out (by have := HBS.out; cases hb : badF S with | false => rfl | true => rw [hb] at this; cases this))
        gi_wp2_with fail
        exact ⟨HKO.out.from _, K6.out.block _ KS.out (by omega), ⟨boxed_keptK K0.out K6.out (by have := HG.out; omega), boxed_keptK K1.out K6.out (by have := HG.out; omega), boxed_keptK K2.out K6.out (by have := HG.out; omega), boxed_keptK KL.out K6.out (by omega), ⟨xs', by rw [hmap.out]; exact V6.out⟩, HF9.out, Nat.lt_of_lt_of_le KS.out K6.out.size⟩, HB6.out⟩
  case done =>
    rintro D ys W hD hS ⟨⟨hv, hz1, hz2, hlb, ⟨xs, hV⟩, hall, hsz⟩, hB⟩ hK
    have hf := apL_fine hS hall
    rw [hS, apS_all] at hV
    obtain rfl : x = true := HX.out.1.trans hf
    obtain rfl : X = apL innV L C V R := HX.out.2.trans (by unfold apR; rw [hf]; rfl)
    have K1 := Lib.hid hz1
    have K2 := Lib.hid hz2
    have KV := Lib.hid hV
    have KB := Lib.hid hB
    have HK := Lib.hid hK
    have HDD := Lib.hid hD
    have KS := Lib.hid hsz
    have l0 := hlb.cell
    have p1 := hz1.cell
    have p2 := hz1.frozen
    have q1 := hz2.cell
    have q2 := hz2.frozen
    clear hS hv hz1 hz2 hlb hV hall hsz hB hK hD hf
    go_wp2
    have hK' := ((KeepsOthers.setCell W ⟨h + 1 + 1, 0, none⟩ (.slice (some ⟨g, 0, none⟩) R R)).trans (KeepsOthers.setCell _ ⟨h + 1 + 1 + 1, 0, none⟩ (.bool true))).same D _ HK.out rfl
    have e1 := boxed_shut ((K1.out.set (.slice (some ⟨g, 0, none⟩) R R)).other (B' := h + 1 + 1 + 1) (by omega) (.bool true)) hK'
    have e2 := boxed_shut ((K2.out.other (B' := h + 1 + 1) (by omega) (.slice (some ⟨g, 0, none⟩) R R)).set (.bool true)) hK'
    have hBl := (KB.out.setCell (p := ⟨h + 1 + 1, 0, none⟩) (by simp; omega) (.slice (some ⟨g, 0, none⟩) R R)).setCell (p := ⟨h + 1 + 1 + 1, 0, none⟩) (by simp; omega) (.bool true)
    have V9 := ownV_shut ((KV.out.kept (kept_set _ (h + 1 + 1) 0 (.slice (some ⟨g, 0, none⟩) R R)) (fun k hk e => by have := (KV.out.lt k hk).1; have := HG.out; omega)).kept (kept_set _ (h + 1 + 1 + 1) 0 (.bool true)) (fun k hk e => by have := (KV.out.lt k hk).1; have := HG.out; omega)) hK'
    refine ⟨by simp, .inl ⟨_, _, rfl, run_takeDeferred hK', ?_⟩⟩
    refine ⟨.tuple #[.slice (some ⟨g, 0, none⟩) R R, .bool true], ?_, ?_⟩
    · simp [results, Try.f52, go_sem, e1, e2]
    · have B9 := below_shut hBl (by have := HDD.out; have := KS.out; have := HG.out; omega : h ≤ D) (by have := hBl.size; rw [hh] at this; exact this)
      have V8 := V9.base (B' := h) (by have := HG.out; omega)
      first | exact ⟨_, rfl, ⟨_, V8⟩, B9, fun _ => ⟨g, rfl⟩⟩ | exact ⟨_, rfl, ⟨_, V8⟩, B9⟩ | exact ⟨_, rfl, ⟨_, V8⟩, B9, ⟨g, rfl⟩⟩ | (trace_state; fail) | exact ⟨_, _, rfl, V9.base (by have := HG.out; omega), B9, fun _ => ⟨g, rfl⟩⟩
  case stop =>
    rintro D c pre W hD _ ⟨⟨rfl, hz1, hz2, hf⟩, hB⟩ hK
    obtain rfl : x = false := HX.out.1.trans hf
    obtain rfl : X = [] := HX.out.2.trans (by unfold apR; rw [hf]; rfl)
    have e1 := boxed_shut hz1 hK
    have e2 := boxed_shut hz2 hK
    have B9 := below_shut hB (by have := HG.out; omega : h ≤ D) (by have := hB.size; rw [hh] at this; exact this)
    clear hf
    gi_wp2
    refine ⟨by simp, .inl ⟨_, _, rfl, run_takeDeferred hK, ?_⟩⟩
    refine ⟨.tuple #[.slice none 0 0, .bool false], ?_, ?_⟩
    · simp [results, Try.f52, go_sem, e1, e2]
    · first | exact ⟨_, rfl, ⟨_, OwnV.nil _ _⟩, B9, fun h => by cases h⟩ | exact ⟨_, rfl, ⟨_, OwnV.nil _ _⟩, B9⟩ | exact ⟨_, _, rfl, OwnV.nil _ _, B9, fun h => by cases h⟩

end Go.Proofs.Ytojklmckjebplaa
