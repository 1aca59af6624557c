/- Matp: MatAdd MatApp MatMul MatProd. -/
import Derived.Test.YtojklmckjebplaaGreatMatx
import Derived.Test.YtojklmckjebplaaGreatVecx
/-! MatAdd -/
namespace Go.Proofs.YtojklmckjebplaaGreat
set_option maxRecDepth 100000
set_option linter.unusedVariables false
set_option linter.unusedSimpArgs false
open Go.RowKit Go.WideShapes Go.ChangeShapes
set_option linter.unusedVariables false
set_option linter.unusedSimpArgs false

set_option maxRecDepth 100000 in
set_option maxHeartbeats 1000000 in
theorem spec_matDone (r c : Int) (v : Value) (L : List Fr) (w : World) (h : RatsAt w v L) :
    Calls Tryz.prog 20 #[.agg #[.int .i64 r, .int .i64 c, v]] w fun e w' => e = .returned (.tuple #[if fineV L then .agg #[.int .i64 r, .int .i64 c, v] else .agg #[.int .i64 0, .int .i64 0, .slice none 0 0], .bool (fineV L)]) ∧ Below w.heap.size w w' := by
  obtain ⟨a, cap, rfl, hc, hm, hr⟩ := h
  have HR := Lib.hid (show RatsAt w (.slice a L.length cap) L from ⟨a, cap, rfl, hc, hm, hr⟩)
  clear hc hm hr
  obtain ⟨n, hnn⟩ : ∃ n, L.length = n := ⟨_, rfl⟩
  rw [hnn] at HR ⊢
  clear hnn
  cases q0 : fineV L with
  | true =>
    go_enter Tryz.func20, Tryz.ntmps20
    go_wp2_with fail
    obtain ⟨W0, hW0⟩ : ∃ x, x = (w.alloc (.cells #[.int .i64 r, .int .i64 c, .slice a n cap] 28)).alloc (.cells #[.int .i64 0, .int .i64 0, .slice none 0 0] 28) := ⟨_, rfl⟩
    have D := Lib.hid (show B3 W0 w.heap.size 28 (.int .i64 r) (.int .i64 c) (.slice a n cap) by rw [hW0]; exact (B3.new _ _ _ _ _).alloc _)
    have Z := Lib.hid (show B3 W0 (w.heap.size + 1) 28 (.int .i64 0) (.int .i64 0) (.slice none 0 0) by rw [hW0]; exact b3_at (B3.new _ _ _ _ _) (by simp))
    have B0 := Lib.hid (show Below w.heap.size w W0 by rw [hW0]; exact ((Below.refl _ _).alloc (Nat.le_refl _) _).alloc (by simp) _)
    rw [← hW0]
    clear hW0
    try (have d2 := D.out.c2; go_wp2_with fail)
    have T := spec_fine _ L W0 (HR.out.below B0.out)
    rw [q0] at T
    refine T.mono ?_
    rintro e w1 ⟨rfl, b1⟩
    replace D := Lib.hid (D.out.below b1)
    replace Z := Lib.hid (Z.out.below b1)
    replace B0 := Lib.hid (B0.out.trans (b1.mono B0.out.size))
    clear b1 T
    have d0 := D.out.c0
    have d1 := D.out.c1
    have d2 := D.out.c2
    have z0 := Z.out.c0
    have z1 := Z.out.c1
    have z2 := Z.out.c2
    have x0 := Z.out.f 0
    have x1 := Z.out.f 1
    have x2 := Z.out.f 2
    have B9 := Lib.hid (((B0.out.setCell (p := ⟨w.heap.size + 1, 0, none⟩) (by simp) (.int .i64 r)).setCell (p := ⟨w.heap.size + 1, 1, none⟩) (by simp) (.int .i64 c)).setCell (p := ⟨w.heap.size + 1, 2, none⟩) (by simp) (.slice a n cap))
    have D8 := Z.out.set3 (.int .i64 r) (.int .i64 c) (.slice a n cap)
    have hc0 := D8.c0; have hc1 := D8.c1; have hc2 := D8.c2
    clear D8
    go_wp2_with fail
    exact bodyPost_ret (v := .tuple #[.agg #[(.int .i64 r), (.int .i64 c), (.slice a n cap)], .bool true]) (by simp [results, Tryz.results20, go_sem, hc0, hc1, hc2]) rfl ⟨rfl, B9.out⟩
  | false =>
    go_enter Tryz.func20, Tryz.ntmps20
    go_wp2_with fail
    obtain ⟨W0, hW0⟩ : ∃ x, x = (w.alloc (.cells #[.int .i64 r, .int .i64 c, .slice a n cap] 28)).alloc (.cells #[.int .i64 0, .int .i64 0, .slice none 0 0] 28) := ⟨_, rfl⟩
    have D := Lib.hid (show B3 W0 w.heap.size 28 (.int .i64 r) (.int .i64 c) (.slice a n cap) by rw [hW0]; exact (B3.new _ _ _ _ _).alloc _)
    have Z := Lib.hid (show B3 W0 (w.heap.size + 1) 28 (.int .i64 0) (.int .i64 0) (.slice none 0 0) by rw [hW0]; exact b3_at (B3.new _ _ _ _ _) (by simp))
    have B0 := Lib.hid (show Below w.heap.size w W0 by rw [hW0]; exact ((Below.refl _ _).alloc (Nat.le_refl _) _).alloc (by simp) _)
    rw [← hW0]
    clear hW0
    try (have d2 := D.out.c2; go_wp2_with fail)
    have T := spec_fine _ L W0 (HR.out.below B0.out)
    rw [q0] at T
    refine T.mono ?_
    rintro e w1 ⟨rfl, b1⟩
    replace D := Lib.hid (D.out.below b1)
    replace Z := Lib.hid (Z.out.below b1)
    replace B0 := Lib.hid (B0.out.trans (b1.mono B0.out.size))
    clear b1 T
    have d0 := D.out.c0
    have d1 := D.out.c1
    have d2 := D.out.c2
    have z0 := Z.out.c0
    have z1 := Z.out.c1
    have z2 := Z.out.c2
    have x0 := Z.out.f 0
    have x1 := Z.out.f 1
    have x2 := Z.out.f 2
    have B9 := Lib.hid (((B0.out.setCell (p := ⟨w.heap.size + 1, 0, none⟩) (by simp) (.int .i64 0)).setCell (p := ⟨w.heap.size + 1, 1, none⟩) (by simp) (.int .i64 0)).setCell (p := ⟨w.heap.size + 1, 2, none⟩) (by simp) (.slice none 0 0))
    have D8 := Z.out.set3 (.int .i64 0) (.int .i64 0) (.slice none 0 0)
    have hc0 := D8.c0; have hc1 := D8.c1; have hc2 := D8.c2
    clear D8
    go_wp2_with fail
    exact bodyPost_ret (v := .tuple #[.agg #[(.int .i64 0), (.int .i64 0), (.slice none 0 0)], .bool false]) (by simp [results, Tryz.results20, go_sem, hc0, hc1, hc2]) rfl ⟨rfl, B9.out⟩

def fitM (ok : Bool → List Int → List Int → Bool) (r c : Int) (L : List Fr) (r' c' : Int) (L' : List Fr) : Bool := matB ok r c L && (matB ok r' c' L' && ((r == r') && (c == c')))
def adB (ok : Bool → List Int → List Int → Bool) (add : Fr → Fr → Fr) (r c : Int) (L : List Fr) (r' c' : Int) (L' : List Fr) : Bool := fitM ok r c L r' c' L' && fineV (zipF add L L')
def adL (ok : Bool → List Int → List Int → Bool) (add : Fr → Fr → Fr) (r c : Int) (L : List Fr) (r' c' : Int) (L' : List Fr) : List Fr := if adB ok add r c L r' c' L' then zipF add L L' else []
def adR (ok : Bool → List Int → List Int → Bool) (add : Fr → Fr → Fr) (r c : Int) (L : List Fr) (r' c' : Int) (L' : List Fr) : Int := if adB ok add r c L r' c' L' then r else 0
def adC (ok : Bool → List Int → List Int → Bool) (add : Fr → Fr → Fr) (r c : Int) (L : List Fr) (r' c' : Int) (L' : List Fr) : Int := if adB ok add r c L r' c' L' then c else 0
theorem ad_no {ok : Bool → List Int → List Int → Bool} {add : Fr → Fr → Fr} {r c : Int} {L : List Fr} {r' c' : Int} {L' : List Fr} (h : adB ok add r c L r' c' L' = false) :
    adL ok add r c L r' c' L' = [] ∧ adR ok add r c L r' c' L' = 0 ∧ adC ok add r c L r' c' L' = 0 := by unfold adL adR adC; rw [h]; exact ⟨rfl, rfl, rfl⟩
theorem ad_yes {ok : Bool → List Int → List Int → Bool} {add : Fr → Fr → Fr} {r c : Int} {L : List Fr} {r' c' : Int} {L' : List Fr} (h : adB ok add r c L r' c' L' = true) :
    adL ok add r c L r' c' L' = zipF add L L' ∧ adR ok add r c L r' c' L' = r ∧ adC ok add r c L r' c' L' = c := by unfold adL adR adC; rw [h]; exact ⟨rfl, rfl, rfl⟩

end Go.Proofs.YtojklmckjebplaaGreat

/-! MatApp -/
namespace Go.Proofs.YtojklmckjebplaaGreat
set_option maxRecDepth 100000
set_option linter.unusedVariables false
set_option linter.unusedSimpArgs false
open Go.RowKit Go.WideShapes Go.ChangeShapes
set_option linter.unusedVariables false
set_option linter.unusedSimpArgs false
/-- Row i of a list that holds rows of C elements. -/
def rowM (L : List Fr) (C i : Nat) : List Fr := (L.drop (i * C)).take C
def apL (inn : List Fr → List Fr → Fr) (L : List Fr) (C : Nat) (V : List Fr) (i : Nat) : List Fr := (List.range i).map (fun k => inn (rowM L C k) V)
theorem apL_succ (inn : List Fr → List Fr → Fr) (L : List Fr) (C : Nat) (V : List Fr) (i : Nat) : apL inn L C V (i + 1) = apL inn L C V i ++ [inn (rowM L C i) V] := by unfold apL; rw [List.range_succ, List.map_append]; rfl
theorem rowM_len {L : List Fr} {R C i : Nat} (h : L.length = R * C) (hi : i < R) : (rowM L C i).length = C := by
  have := row_in (C := C) hi
  unfold rowM; rw [List.length_take, List.length_drop]; omega
theorem rowM_all {P : Fr → Prop} {L : List Fr} {C i : Nat} (h : ∀ k (hk : k < L.length), P (L[k]'hk)) : ∀ k (hk : k < (rowM L C i).length), P ((rowM L C i)[k]'hk) := by
  unfold rowM; intro k hk; simp only [List.getElem_take, List.getElem_drop]; exact h _ _

set_option maxRecDepth 100000 in
set_option maxHeartbeats 2000000 in
theorem spec_apply (ok : Bool → List Int → List Int → Bool) (inn : List Fr → List Fr → Fr)
    (HIN : ∀ v0 L0 v1 L1 w, RatsAt w v0 L0 → RatsAt w v1 L1 → L0.length = L1.length → L0.length ≤ 24 → (∀ k (hk : k < L0.length), ok (L0[k]'hk).neg (L0[k]'hk).mag (L0[k]'hk).den = true) → (∀ k (hk : k < L1.length), ok (L1[k]'hk).neg (L1[k]'hk).mag (L1[k]'hk).den = true) →
      Calls Tryz.prog 39 #[v0, v1] w fun r w' => ∃ x y, r = .returned (.agg #[.bool (inn L0 L1).neg, x, y]) ∧ OwnR w' w.heap.size x (inn L0 L1).mag y (inn L0 L1).den ∧ Below w.heap.size w w')
    (R C n : Nat) (a : Option Addr) (cap : Nat) (L : List Fr) (u : Value) (V : List Fr) (w : World) (h : RatsAt w (.slice a n cap) L) (h' : RatsAt w u V) (hR : R ≤ 24) (hC : C ≤ 24) (hn : n ≤ 576) (hLn : L.length = n) (hRC : n = R * C) (hV : V.length = C)
    (hE : ∀ k (hk : k < L.length), ok (L[k]'hk).neg (L[k]'hk).mag (L[k]'hk).den = true) (hE' : ∀ k (hk : k < V.length), ok (V[k]'hk).neg (V[k]'hk).mag (V[k]'hk).den = true) :
    Calls Tryz.prog 29 #[.agg #[.int .i64 (R : Int), .int .i64 (C : Int), .slice a n cap], u] w fun e w' => ∃ v xs, e = .returned v ∧ OwnV w' w.heap.size v (apL inn L C V R) xs ∧ Below w.heap.size w w' := by
  have HR := Lib.hid h
  have HR' := Lib.hid h'
  have HLR := Lib.hid (show L.length = R * C by omega)
  have HRC := Lib.hid hRC
  have HV := Lib.hid hV
  have HE := Lib.hid hE
  have HE' := Lib.hid hE'
  obtain ⟨a', cap', rfl, _, _⟩ := ratsAt_form h'
  rw [hV] at HR' ⊢
  clear h h' hLn hRC hV hE hE'
  obtain ⟨Z, hZ⟩ : ∃ x, x = apL inn L C V R := ⟨_, rfl⟩
  rw [← hZ]
  have HZ := Lib.hid hZ
  clear hZ
  go_enter Tryz.func29, Tryz.ntmps29
  go_wp2_with fail
  obtain ⟨W0, hW0⟩ : ∃ x, x = (w.alloc (.cells #[.int .i64 (R : Int), .int .i64 (C : Int), .slice a n cap] 28)).alloc (.cells #[] 60) := ⟨_, rfl⟩
  have M0 := Lib.hid (show B3 W0 w.heap.size 28 (.int .i64 (R : Int)) (.int .i64 (C : Int)) (.slice a n cap) by rw [hW0]; exact (B3.new _ _ _ _ _).alloc _)
  have V0 := Lib.hid (show OwnV W0 w.heap.size (.slice (some ⟨w.heap.size + 1, 0, none⟩) 0 0) (apL inn L C V 0) [] by rw [hW0]; have := OwnV.lit0 (w.alloc (.cells #[.int .i64 (R : Int), .int .i64 (C : Int), .slice a n cap] 28)); simp only [World.size_alloc] at this; exact this.base (by simp))
  have B0 := Lib.hid (show Below w.heap.size w W0 by rw [hW0]; exact ((Below.refl _ _).alloc (Nat.le_refl _) _).alloc (by simp) _)
  rw [← hW0]
  clear hW0
  go_loopw [5, 6] (fun ov iv wr => ∃ (i : Nat) (vo : Value) (xs : List (Value × Value)), i ≤ R ∧ iv = .int .i64 i ∧ vo = ov ∧ Hid (B3 wr w.heap.size 28 (.int .i64 (R : Int)) (.int .i64 (C : Int)) (.slice a n cap)) ∧ Hid (OwnV wr w.heap.size vo (apL inn L C V i) xs) ∧ Hid (Below w.heap.size w wr)) (fun _ iv _ => R - (intOf iv).toNat)
  case atStart => exact ⟨0, _, [], Nat.zero_le _, rfl, rfl, M0, V0, B0⟩
  case round =>
    clear M0 V0 B0
    obtain ⟨i, vo, xs, hi, rfl, rfl, M, O, B⟩ := hrel
    have m0 := M.out.c0
    have m1 := M.out.c1
    have m2 := M.out.c2
    by_cases hlt : i < R
    · have hin : i * C + C ≤ n := by have := row_in (C := C) hlt; rw [HRC.out]; omega
      have HSR := Lib.hid (spec_row (R : Int) C i n a cap L wr (HR.out.below B.out) hin hn hC (by omega))
      have HL1 := Lib.hid (rowM_len HLR.out hlt)
      have HE1 := Lib.hid (rowM_all (P := fun f => ok f.neg f.mag f.den = true) (C := C) (i := i) HE.out)
      have HP := Lib.hid (apL_succ inn L C V i)
      change Hid (Calls _ _ _ _ (fun e w' => ∃ v, e = .returned v ∧ RatsAt w' v (rowM L C i) ∧ _)) at HSR
      obtain ⟨Q, hQ⟩ : ∃ Q, Q = rowM L C i := ⟨_, rfl⟩
      rw [← hQ] at HSR HL1 HE1 HP
      have HPL := Lib.hid (show (apL inn L C V i).length ≤ 100000 by unfold apL; simp; omega)
      obtain ⟨P, hP⟩ : ∃ P, P = apL inn L C V i := ⟨_, rfl⟩
      rw [← hP] at HP HPL O
      clear hQ hP hin
      have BS := Lib.hid B.out.size
      have L9 := Lib.hid O.out.lt
      go_wp2_with fail
      refine HSR.out.mono ?_
      rintro e w_t ⟨v_t, rfl, r_t, b_t⟩
      obtain ⟨a_t, c_t, rfl, _, _⟩ := ratsAt_form r_t
      have R_t := Lib.hid r_t
      have BT := Lib.hid b_t
      have HL2 := HL1.out
      rw [HL2] at R_t ⊢
      clear r_t b_t HSR HL2
      have HAT := HIN _ Q _ V w_t R_t.out (HR'.out.below (B.out.trans (BT.out.mono BS.out))) (by rw [HL1.out, HV.out]) (by rw [HL1.out]; exact hC) HE1.out HE'.out
      obtain ⟨h, hh⟩ : ∃ h, h = inn Q V := ⟨_, rfl⟩
      rw [← hh] at HAT HP
      clear hh
      go_wp2_with fail
      refine HAT.mono ?_
      rintro e w_r ⟨x_r, y_r, rfl, o_r, b_r⟩
      obtain ⟨a_r, c_r, e_r, f_r, rfl, rfl⟩ := o_r.slices
      have bb_r := BT.out.trans (b_r.mono BT.out.size)
      have hbb := bb_r.size
      replace o_r := o_r.base BT.out.size
      have lr := o_r.lt
      go_wp2_with (at_builtin; refine append_rat rfl _ _ rfl w.heap.size vo P xs rfl ((O.out.below bb_r).alloc _) HPL.out (by have := BS.out; simp; omega) _ _ rfl h _ _ (World.alloc_heap_new _ _) (OwnR.base (o_r.alloc _) BS.out) (fun i hi r r' h1 h2 => by have h3 := (L9.out r (.inr ⟨_, List.getElem_mem hi, h1⟩)).2; have h4 := (lr r' h2).1; omega) (fun r h2 h1 => by have h3 := (L9.out r (.inl h1)).2; have h4 := (lr r h2).1; omega) ?_; intro v_n w_n o_n g_n l_n)
      exact ⟨⟨i + 1, v_n, _, by omega, by go_num, rfl, Lib.hid (((M.out.below bb_r).alloc _).grown ((O.out.below bb_r).alloc _) (by decide) (by decide) g_n), Lib.hid (by rw [HP.out]; exact o_n), Lib.hid (((B.out.trans (bb_r.mono BS.out)).alloc (Nat.le_trans BS.out hbb) _).grown g_n (by have := BS.out; simp; omega) (fun q hq => (L9.out q (.inl hq)).1))⟩, by simp [intOf]; omega⟩
    · obtain rfl : i = R := by omega
      rw [← HZ.out] at O
      go_wp2
      go_ret
      exact ⟨vo, xs, rfl, O.out, B.out⟩

def amB (ok : Bool → List Int → List Int → Bool) (inn : List Fr → List Fr → Fr) (r c : Int) (L V : List Fr) : Bool := matB ok r c L && (vecB ok V && (decide ((V.length : Int) = c) && fineV (apL inn L c.toNat V r.toNat)))
def amL (ok : Bool → List Int → List Int → Bool) (inn : List Fr → List Fr → Fr) (r c : Int) (L V : List Fr) : List Fr := if amB ok inn r c L V then apL inn L c.toNat V r.toNat else []
set_option maxRecDepth 100000 in
set_option maxHeartbeats 2000000 in
theorem spec_applyMatrix (ok : Bool → List Int → List Int → Bool) (inn : List Fr → List Fr → Fr)
    (HIN : ∀ v0 L0 v1 L1 w, RatsAt w v0 L0 → RatsAt w v1 L1 → L0.length = L1.length → L0.length ≤ 24 → (∀ k (hk : k < L0.length), ok (L0[k]'hk).neg (L0[k]'hk).mag (L0[k]'hk).den = true) → (∀ k (hk : k < L1.length), ok (L1[k]'hk).neg (L1[k]'hk).mag (L1[k]'hk).den = true) →
      Calls Tryz.prog 39 #[v0, v1] w fun r w' => ∃ x y, r = .returned (.agg #[.bool (inn L0 L1).neg, x, y]) ∧ OwnR w' w.heap.size x (inn L0 L1).mag y (inn L0 L1).den ∧ Below w.heap.size w w')
    (HOK : ∀ b v zs d ds w, RowR w v zs d ds → Calls Tryz.prog 36 #[.agg #[.bool b, v, d]] w fun r w' => r = .returned (.bool (ok b zs ds)) ∧ Below w.heap.size w w')
    (r c : Int) (v : Value) (L : List Fr) (u : Value) (V : List Fr) (w : World) (h : RatsAt w v L) (h' : RatsAt w u V) :
    Calls Tryz.prog 13 #[.agg #[.int .i64 r, .int .i64 c, v], u] w fun e w' => ∃ x xs, e = .returned (.tuple #[x, .bool (amB ok inn r c L V)]) ∧ OwnV w' w.heap.size x (amL ok inn r c L V) xs ∧ Below w.heap.size w w' := by
  have HR := Lib.hid h
  have HR' := Lib.hid h'
  obtain ⟨a, cap, rfl, hc1, hc2⟩ := ratsAt_form h
  obtain ⟨a', cap', rfl, hc1', hc2'⟩ := ratsAt_form h'
  clear h h'
  obtain ⟨n, hnn⟩ : ∃ n, L.length = n := ⟨_, rfl⟩
  obtain ⟨n', hnn'⟩ : ∃ n, V.length = n := ⟨_, rfl⟩
  rw [hnn] at HR hc1 ⊢
  rw [hnn'] at HR' hc1' ⊢
  have HN := Lib.hid hnn
  have HN' := Lib.hid hnn'
  clear hnn hnn'
  cases q0 : matB ok r c L with
  | false =>
    have HF := (show amB ok inn r c L V = false by unfold amB; rw [q0]; rfl)
    rw [HF, show amL ok inn r c L V = [] by unfold amL; rw [HF]; rfl]
    clear HF
    go_enter Tryz.func13, Tryz.ntmps13
    go_wp2_with fail
    obtain ⟨W0, hW0⟩ : ∃ x, x = w.alloc (.cells #[.int .i64 r, .int .i64 c, .slice a n cap] 28) := ⟨_, rfl⟩
    have D := Lib.hid (show B3 W0 w.heap.size 28 (.int .i64 r) (.int .i64 c) (.slice a n cap) by rw [hW0]; exact B3.new _ _ _ _ _)
    have B0 := Lib.hid (show Below w.heap.size w W0 by rw [hW0]; exact (Below.refl _ _).alloc (Nat.le_refl _) _)
    rw [← hW0]
    clear hW0
    try (have d0 := D.out.c0; have d1 := D.out.c1; have d2 := D.out.c2; go_wp2_with fail)
    have T := spec_matrixOk ok HOK r c _ L W0 (HR.out.below B0.out)
    rw [q0] at T
    refine T.mono ?_
    rintro e w1 ⟨rfl, b1⟩
    replace D := Lib.hid (D.out.below b1)
    replace B0 := Lib.hid (B0.out.trans (b1.mono B0.out.size))
    clear b1 T
    go_wp2_with fail
    exact bodyPost_ret (v := .tuple #[.slice none 0 0, .bool false]) (by simp [results, Tryz.results13, go_sem]) rfl ⟨.slice none 0 0, [], rfl, OwnV.nil _ _, B0.out⟩
  | true =>
  cases q1 : vecB ok V with
  | false =>
    have HF := (show amB ok inn r c L V = false by unfold amB; rw [q0, q1]; rfl)
    rw [HF, show amL ok inn r c L V = [] by unfold amL; rw [HF]; rfl]
    clear HF
    go_enter Tryz.func13, Tryz.ntmps13
    go_wp2_with fail
    obtain ⟨W0, hW0⟩ : ∃ x, x = w.alloc (.cells #[.int .i64 r, .int .i64 c, .slice a n cap] 28) := ⟨_, rfl⟩
    have D := Lib.hid (show B3 W0 w.heap.size 28 (.int .i64 r) (.int .i64 c) (.slice a n cap) by rw [hW0]; exact B3.new _ _ _ _ _)
    have B0 := Lib.hid (show Below w.heap.size w W0 by rw [hW0]; exact (Below.refl _ _).alloc (Nat.le_refl _) _)
    rw [← hW0]
    clear hW0
    try (have d0 := D.out.c0; have d1 := D.out.c1; have d2 := D.out.c2; go_wp2_with fail)
    have T := spec_matrixOk ok HOK r c _ L W0 (HR.out.below B0.out)
    rw [q0] at T
    refine T.mono ?_
    rintro e w1 ⟨rfl, b1⟩
    replace D := Lib.hid (D.out.below b1)
    replace B0 := Lib.hid (B0.out.trans (b1.mono B0.out.size))
    clear b1 T
    go_wp2_with fail
    have T := spec_isVector ok HOK _ V w1 (HR'.out.below B0.out)
    rw [q1] at T
    refine T.mono ?_
    rintro e w2 ⟨rfl, b1⟩
    replace D := Lib.hid (D.out.below b1)
    replace B0 := Lib.hid (B0.out.trans (b1.mono B0.out.size))
    clear b1 T
    have d0 := D.out.c0
    have d1 := D.out.c1
    have d2 := D.out.c2
    go_wp2_with fail
    exact bodyPost_ret (v := .tuple #[.slice none 0 0, .bool false]) (by simp [results, Tryz.results13, go_sem]) rfl ⟨.slice none 0 0, [], rfl, OwnV.nil _ _, B0.out⟩
  | true =>
  by_cases q2 : (n' : Int) = c
  rotate_left
  · have hne : ((n' : Int) == c) = false := by rw [beq_eq_false_iff_ne]; exact q2
    have hne2 : ((n' : Int) != c) = true := by unfold bne; rw [hne]; rfl
    have HF := (show amB ok inn r c L V = false by unfold amB; rw [q0, q1, decide_eq_false (by rw [HN'.out]; exact q2)]; rfl)
    rw [HF, show amL ok inn r c L V = [] by unfold amL; rw [HF]; rfl]
    clear HF
    go_enter Tryz.func13, Tryz.ntmps13
    go_wp2_with fail
    obtain ⟨W0, hW0⟩ : ∃ x, x = w.alloc (.cells #[.int .i64 r, .int .i64 c, .slice a n cap] 28) := ⟨_, rfl⟩
    have D := Lib.hid (show B3 W0 w.heap.size 28 (.int .i64 r) (.int .i64 c) (.slice a n cap) by rw [hW0]; exact B3.new _ _ _ _ _)
    have B0 := Lib.hid (show Below w.heap.size w W0 by rw [hW0]; exact (Below.refl _ _).alloc (Nat.le_refl _) _)
    rw [← hW0]
    clear hW0
    try (have d0 := D.out.c0; have d1 := D.out.c1; have d2 := D.out.c2; go_wp2_with fail)
    have T := spec_matrixOk ok HOK r c _ L W0 (HR.out.below B0.out)
    rw [q0] at T
    refine T.mono ?_
    rintro e w1 ⟨rfl, b1⟩
    replace D := Lib.hid (D.out.below b1)
    replace B0 := Lib.hid (B0.out.trans (b1.mono B0.out.size))
    clear b1 T
    go_wp2_with fail
    have T := spec_isVector ok HOK _ V w1 (HR'.out.below B0.out)
    rw [q1] at T
    refine T.mono ?_
    rintro e w2 ⟨rfl, b1⟩
    replace D := Lib.hid (D.out.below b1)
    replace B0 := Lib.hid (B0.out.trans (b1.mono B0.out.size))
    clear b1 T
    have d0 := D.out.c0
    have d1 := D.out.c1
    have d2 := D.out.c2
    go_wp2_with fail
    exact bodyPost_ret (v := .tuple #[.slice none 0 0, .bool false]) (by simp [results, Tryz.results13, go_sem]) rfl ⟨.slice none 0 0, [], rfl, OwnV.nil _ _, B0.out⟩
  have hne : ((n' : Int) == c) = true := by rw [beq_iff_eq]; exact q2
  have hne2 : ((n' : Int) != c) = false := by unfold bne; rw [hne]; rfl
  have HF := Lib.hid (show amB ok inn r c L V = fineV (apL inn L c.toNat V r.toNat) by unfold amB; rw [q0, q1, decide_eq_true (by rw [HN'.out]; exact q2)]; rfl)
  obtain ⟨R, C, rfl, rfl, hR, hC, hLn, hRC, hE⟩ := matB_parts q0
  obtain rfl : n' = C := by omega
  have hE' : ∀ k (hk : k < V.length), ok (V[k]'hk).neg (V[k]'hk).mag (V[k]'hk).den = true := by
    intro k hk
    have h9 := q1
    unfold vecB at h9
    simp only [Bool.and_eq_true, List.all_eq_true] at h9
    exact h9.2 _ (List.getElem_mem hk)
  have HT := Lib.hid (fun W (hW : Below w.heap.size w W) => spec_apply ok inn HIN R n' n a cap L (.slice a' n' cap') V W (HR.out.below hW) (HR'.out.below hW) hR hC (by rw [← HN.out]; omega) HN.out (by rw [← HN.out]; exact hLn) HN'.out hE hE')
  clear hE hE' hLn hRC q2
  rw [Int.toNat_natCast, Int.toNat_natCast] at HF
  have HAL := Lib.hid (show ∀ b, amB ok inn R n' L V = b → amL ok inn R n' L V = (if b then apL inn L n' V R else []) by intro b hb; unfold amL; rw [hb, Int.toNat_natCast, Int.toNat_natCast])
  obtain ⟨P, hP⟩ : ∃ P, P = apL inn L n' V R := ⟨_, rfl⟩
  rw [← hP] at HT HF HAL
  clear hP
  cases hb : fineV P with
  | true =>
    have e1 := HF.out.trans hb
    have e2 := HAL.out true e1
    rw [if_pos rfl] at e2
    rw [e1, e2]
    clear e1 e2
    go_enter Tryz.func13, Tryz.ntmps13
    go_wp2_with fail
    obtain ⟨W0, hW0⟩ : ∃ x, x = w.alloc (.cells #[.int .i64 (R : Int), .int .i64 (n' : Int), .slice a n cap] 28) := ⟨_, rfl⟩
    have D := Lib.hid (show B3 W0 w.heap.size 28 (.int .i64 (R : Int)) (.int .i64 (n' : Int)) (.slice a n cap) by rw [hW0]; exact B3.new _ _ _ _ _)
    have B0 := Lib.hid (show Below w.heap.size w W0 by rw [hW0]; exact (Below.refl _ _).alloc (Nat.le_refl _) _)
    rw [← hW0]
    clear hW0
    try (have d0 := D.out.c0; have d1 := D.out.c1; have d2 := D.out.c2; go_wp2_with fail)
    have T := spec_matrixOk ok HOK R n' _ L W0 (HR.out.below B0.out)
    rw [q0] at T
    refine T.mono ?_
    rintro e w1 ⟨rfl, b1⟩
    replace D := Lib.hid (D.out.below b1)
    replace B0 := Lib.hid (B0.out.trans (b1.mono B0.out.size))
    clear b1 T
    go_wp2_with fail
    have T := spec_isVector ok HOK _ V w1 (HR'.out.below B0.out)
    rw [q1] at T
    refine T.mono ?_
    rintro e w2 ⟨rfl, b1⟩
    replace D := Lib.hid (D.out.below b1)
    replace B0 := Lib.hid (B0.out.trans (b1.mono B0.out.size))
    clear b1 T
    have d0 := D.out.c0
    have d1 := D.out.c1
    have d2 := D.out.c2
    go_wp2_with fail
    refine (HT.out _ B0.out).mono ?_
    rintro e w3 ⟨v3, x3, rfl, o3, b3⟩
    have O3 := Lib.hid (o3.base B0.out.size)
    have B3_ := Lib.hid (B0.out.trans (b3.mono B0.out.size))
    have T := spec_done v3 P w3 o3.rats
    rw [hb] at T
    clear o3 b3 d0 d1 d2
    go_wp2_with fail
    refine T.mono ?_
    rintro e w4 ⟨rfl, b4⟩
    go_wp2_with fail
    exact bodyPost_ret (v := .tuple #[v3, .bool true]) (by simp [results, Tryz.results13, go_sem]) rfl ⟨_, _, rfl, O3.out.below b4, B3_.out.trans (b4.mono B3_.out.size)⟩
  | false =>
    have e1 := HF.out.trans hb
    have e2 := HAL.out false e1
    rw [if_neg (by decide)] at e2
    rw [e1, e2]
    clear e1 e2
    go_enter Tryz.func13, Tryz.ntmps13
    go_wp2_with fail
    obtain ⟨W0, hW0⟩ : ∃ x, x = w.alloc (.cells #[.int .i64 (R : Int), .int .i64 (n' : Int), .slice a n cap] 28) := ⟨_, rfl⟩
    have D := Lib.hid (show B3 W0 w.heap.size 28 (.int .i64 (R : Int)) (.int .i64 (n' : Int)) (.slice a n cap) by rw [hW0]; exact B3.new _ _ _ _ _)
    have B0 := Lib.hid (show Below w.heap.size w W0 by rw [hW0]; exact (Below.refl _ _).alloc (Nat.le_refl _) _)
    rw [← hW0]
    clear hW0
    try (have d0 := D.out.c0; have d1 := D.out.c1; have d2 := D.out.c2; go_wp2_with fail)
    have T := spec_matrixOk ok HOK R n' _ L W0 (HR.out.below B0.out)
    rw [q0] at T
    refine T.mono ?_
    rintro e w1 ⟨rfl, b1⟩
    replace D := Lib.hid (D.out.below b1)
    replace B0 := Lib.hid (B0.out.trans (b1.mono B0.out.size))
    clear b1 T
    go_wp2_with fail
    have T := spec_isVector ok HOK _ V w1 (HR'.out.below B0.out)
    rw [q1] at T
    refine T.mono ?_
    rintro e w2 ⟨rfl, b1⟩
    replace D := Lib.hid (D.out.below b1)
    replace B0 := Lib.hid (B0.out.trans (b1.mono B0.out.size))
    clear b1 T
    have d0 := D.out.c0
    have d1 := D.out.c1
    have d2 := D.out.c2
    go_wp2_with fail
    refine (HT.out _ B0.out).mono ?_
    rintro e w3 ⟨v3, x3, rfl, o3, b3⟩
    have B3_ := Lib.hid (B0.out.trans (b3.mono B0.out.size))
    have T := spec_done v3 P w3 o3.rats
    rw [hb] at T
    clear o3 b3 d0 d1 d2
    go_wp2_with fail
    refine T.mono ?_
    rintro e w4 ⟨rfl, b4⟩
    go_wp2_with fail
    exact bodyPost_ret (v := .tuple #[.slice none 0 0, .bool false]) (by simp [results, Tryz.results13, go_sem]) rfl ⟨.slice none 0 0, [], rfl, OwnV.nil _ _, B3_.out.trans (b4.mono B3_.out.size)⟩

end Go.Proofs.YtojklmckjebplaaGreat

/-! MatMul -/
namespace Go.Proofs.YtojklmckjebplaaGreat
set_option maxRecDepth 100000
set_option linter.unusedVariables false
set_option linter.unusedSimpArgs false
open Go.RowKit Go.WideShapes Go.ChangeShapes
set_option linter.unusedVariables false
set_option linter.unusedSimpArgs false
def prC (inn : List Fr → List Fr → Fr) (L U : List Fr) (C i k : Nat) : List Fr := (List.range k).map (fun j => inn (rowM L C i) (rowM U C j))
def prM (inn : List Fr → List Fr → Fr) (L U : List Fr) (C K i : Nat) : List Fr := (List.range i).flatMap (fun j => prC inn L U C j K)
theorem prC_succ (inn : List Fr → List Fr → Fr) (L U : List Fr) (C i k : Nat) : prC inn L U C i (k + 1) = prC inn L U C i k ++ [inn (rowM L C i) (rowM U C k)] := by unfold prC; rw [List.range_succ, List.map_append]; rfl
theorem prM_succ (inn : List Fr → List Fr → Fr) (L U : List Fr) (C K i : Nat) : prM inn L U C K (i + 1) = prM inn L U C K i ++ prC inn L U C i K := by unfold prM; rw [List.range_succ, List.flatMap_append]; simp
theorem prC_len (inn : List Fr → List Fr → Fr) (L U : List Fr) (C i k : Nat) : (prC inn L U C i k).length = k := by unfold prC; simp
theorem prM_len (inn : List Fr → List Fr → Fr) (L U : List Fr) (C K i : Nat) : (prM inn L U C K i).length = i * K := by
  induction i with
  | zero => simp [prM]
  | succ i ih => rw [prM_succ, List.length_append, ih, prC_len, Nat.add_mul, Nat.one_mul]
theorem trM_all {P : Fr → Prop} {L : List Fr} {R C : Nat} (hL : L.length = R * C) (h : ∀ k (hk : k < L.length), P (L[k]'hk)) : ∀ k (hk : k < (trM L R C C).length), P ((trM L R C C)[k]'hk) := by
  have key : ∀ x ∈ trM L R C C, P x := by
    intro x hx
    unfold trM at hx
    rw [List.mem_flatMap] at hx
    obtain ⟨c, hc, hx⟩ := hx
    unfold trC at hx
    rw [List.mem_map] at hx
    obtain ⟨i, hi, rfl⟩ := hx
    rw [List.mem_range] at hc hi
    have h9 := row_in (C := C) hi
    rw [el_at (show i * C + c < L.length by omega)]
    exact h _ _
  exact fun k hk => key _ (List.getElem_mem hk)

set_option maxRecDepth 100000 in
set_option maxHeartbeats 40000000 in
theorem spec_multiplied (ok : Bool → List Int → List Int → Bool)
    (HC : ∀ (f : Fr), ok f.neg f.mag f.den = true → ∀ v d w, RowR w v f.mag d f.den → Calls Tryz.prog 60 #[.agg #[.bool f.neg, v, d]] w fun r w' => ∃ x y, r = .returned (.agg #[.bool f.neg, x, y]) ∧ OwnR w' w.heap.size x f.mag y f.den ∧ Below w.heap.size w w') (inn : List Fr → List Fr → Fr)
    (HIN : ∀ v0 L0 v1 L1 w, RatsAt w v0 L0 → RatsAt w v1 L1 → L0.length = L1.length → L0.length ≤ 24 → (∀ k (hk : k < L0.length), ok (L0[k]'hk).neg (L0[k]'hk).mag (L0[k]'hk).den = true) → (∀ k (hk : k < L1.length), ok (L1[k]'hk).neg (L1[k]'hk).mag (L1[k]'hk).den = true) →
      Calls Tryz.prog 39 #[v0, v1] w fun r w' => ∃ x y, r = .returned (.agg #[.bool (inn L0 L1).neg, x, y]) ∧ OwnR w' w.heap.size x (inn L0 L1).mag y (inn L0 L1).den ∧ Below w.heap.size w w')
    (R C K n n' : Nat) (a : Option Addr) (cap : Nat) (L : List Fr) (a' : Option Addr) (cap' : Nat) (L' : List Fr) (w : World) (h : RatsAt w (.slice a n cap) L) (h' : RatsAt w (.slice a' n' cap') L') (hR : R ≤ 24) (hC : C ≤ 24) (hK : K ≤ 24) (hn : n ≤ 576) (hn' : n' ≤ 576) (hLn : L.length = n) (hRC : n = R * C) (hLn' : L'.length = n') (hRC' : n' = C * K)
    (hE : ∀ k (hk : k < L.length), ok (L[k]'hk).neg (L[k]'hk).mag (L[k]'hk).den = true) (hE' : ∀ k (hk : k < L'.length), ok (L'[k]'hk).neg (L'[k]'hk).mag (L'[k]'hk).den = true) :
    Calls Tryz.prog 21 #[.agg #[.int .i64 (R : Int), .int .i64 (C : Int), .slice a n cap], .agg #[.int .i64 (C : Int), .int .i64 (K : Int), .slice a' n' cap']] w fun e w' => ∃ v xs, e = .returned (.agg #[.int .i64 (R : Int), .int .i64 (K : Int), v]) ∧ OwnV w' w.heap.size v (prM inn L (trM L' C K K) C K R) xs ∧ Below w.heap.size w w' := by
  have HR := Lib.hid h
  have HLR := Lib.hid (show L.length = R * C by omega)
  have HRC := Lib.hid hRC
  have HE := Lib.hid hE
  have HTR := Lib.hid (fun W (hW : Below w.heap.size w W) => spec_transposed (fun f => ok f.neg f.mag f.den = true) HC C K n' a' cap' L' W (h'.below hW) hC hK hn' hLn' hRC' hE')
  have HEU := Lib.hid (trM_all (P := fun f => ok f.neg f.mag f.den = true) (show L'.length = C * K by omega) hE')
  have HLU := Lib.hid (trM_len L' C K K)
  have hKC : K * C ≤ 24 * 24 := Nat.mul_le_mul hK hC
  obtain ⟨U, hU⟩ : ∃ U, U = trM L' C K K := ⟨_, rfl⟩
  rw [← hU] at HTR HEU HLU ⊢
  clear h h' hLn hRC hLn' hRC' hE hE' hU
  obtain ⟨Z, hZ⟩ : ∃ x, x = prM inn L U C K R := ⟨_, rfl⟩
  rw [← hZ]
  have HZ := Lib.hid hZ
  clear hZ
  go_enter Tryz.func21, Tryz.ntmps21
  go_wp2_with fail
  obtain ⟨W0, hW0⟩ : ∃ x, x = (((w.alloc (.cells #[.int .i64 (R : Int), .int .i64 (C : Int), .slice a n cap] 28)).alloc (.cells #[.int .i64 (C : Int), .int .i64 (K : Int), .slice a' n' cap'] 28)).alloc (.cells #[.int .i64 0, .int .i64 0, .slice none 0 0] 28)).alloc (.cells #[.int .i64 (R : Int), .int .i64 (K : Int), .slice none 0 0] 28) := ⟨_, rfl⟩
  have A0 := Lib.hid (show B3 W0 w.heap.size 28 (.int .i64 (R : Int)) (.int .i64 (C : Int)) (.slice a n cap) by rw [hW0]; exact (((B3.new _ _ _ _ _).alloc _).alloc _).alloc _)
  have N0 := Lib.hid (show B3 W0 (w.heap.size + 1) 28 (.int .i64 (C : Int)) (.int .i64 (K : Int)) (.slice a' n' cap') by rw [hW0]; exact b3_at (((B3.new _ _ _ _ _).alloc _).alloc _) (by simp))
  have Y0 := Lib.hid (show B3 W0 (w.heap.size + 1 + 1) 28 (.int .i64 0) (.int .i64 0) (.slice none 0 0) by rw [hW0]; exact b3_at ((B3.new _ _ _ _ _).alloc _) (by simp))
  have O0 := Lib.hid (show B3 W0 (w.heap.size + 1 + 1 + 1) 28 (.int .i64 (R : Int)) (.int .i64 (K : Int)) (.slice none 0 0) by rw [hW0]; exact b3_at (B3.new _ _ _ _ _) (by simp))
  have B0 := Lib.hid (show Below w.heap.size w W0 by rw [hW0]; exact ((((Below.refl _ _).alloc (Nat.le_refl _) _).alloc (by simp) _).alloc (by simp; omega) _).alloc (by simp; omega) _)
  rw [← hW0]
  clear hW0
  try (have n0 := N0.out.c0; have n1 := N0.out.c1; have n2 := N0.out.c2; go_wp2_with fail)
  refine (HTR.out _ B0.out).mono ?_
  rintro e w1 ⟨vT, xT, rfl, o1, b1⟩
  obtain ⟨aT, cT, rfl⟩ := o1.slice
  obtain ⟨nT, hnT⟩ : ∃ n, n = U.length := ⟨_, rfl⟩
  have HNT := Lib.hid hnT
  rw [← hnT] at o1 ⊢
  clear hnT
  go_wp2_with fail
  obtain ⟨pT, hpT⟩ : ∃ x, x = w1.heap.size := ⟨_, rfl⟩
  obtain ⟨W2, hW2⟩ : ∃ x, x = w1.alloc (.cells #[.int .i64 (K : Int), .int .i64 (C : Int), .slice aT nT cT] 28) := ⟨_, rfl⟩
  have A2 := Lib.hid (show B3 W2 w.heap.size 28 (.int .i64 (R : Int)) (.int .i64 (C : Int)) (.slice a n cap) by rw [hW2]; exact (A0.out.below b1).alloc _)
  have N2 := Lib.hid (show B3 W2 (w.heap.size + 1) 28 (.int .i64 (C : Int)) (.int .i64 (K : Int)) (.slice a' n' cap') by rw [hW2]; exact (N0.out.below b1).alloc _)
  have Y2 := Lib.hid (show B3 W2 (w.heap.size + 1 + 1) 28 (.int .i64 0) (.int .i64 0) (.slice none 0 0) by rw [hW2]; exact (Y0.out.below b1).alloc _)
  have O2 := Lib.hid (show B3 W2 (w.heap.size + 1 + 1 + 1) 28 (.int .i64 (R : Int)) (.int .i64 (K : Int)) (.slice none 0 0) by rw [hW2]; exact (O0.out.below b1).alloc _)
  have T2 := Lib.hid (show B3 W2 pT 28 (.int .i64 (K : Int)) (.int .i64 (C : Int)) (.slice aT nT cT) by rw [hW2, hpT]; exact B3.new _ _ _ _ _)
  have V2 := Lib.hid (show OwnV W2 w.heap.size (.slice aT nT cT) U xT by rw [hW2]; exact (o1.base B0.out.size).alloc _)
  have B2 := Lib.hid (show Below w.heap.size w W2 by rw [hW2]; exact (B0.out.trans (b1.mono B0.out.size)).alloc (Nat.le_trans B0.out.size b1.size) _)
  have PT := Lib.hid (show w.heap.size + 1 + 1 + 1 < pT by have := O0.out.lt; have := b1.size; omega)
  rw [← hW2, ← hpT]
  clear hW2 hpT A0 N0 Y0 O0 B0 b1 o1 HTR
  obtain ⟨S2, hS2⟩ : ∃ s, s = W2.heap.size := ⟨_, rfl⟩
  have HTL := Lib.hid (show ∀ q, OnV (.slice aT nT cT) xT q → q < S2 by intro q hq; rw [hS2]; exact (V2.out.lt q hq).2)
  have WS := Lib.hid (show w.heap.size ≤ S2 by rw [hS2]; exact B2.out.size)
  have SL := Lib.hid (show S2 ≤ W2.heap.size by omega)
  clear hS2
  go_loopw [7] (fun iv wr => ∃ (i : Nat) (vo : Value) (xs : List (Value × Value)), i ≤ R ∧ iv = .int .i64 i ∧ Hid (B3 wr w.heap.size 28 (.int .i64 (R : Int)) (.int .i64 (C : Int)) (.slice a n cap)) ∧ Hid (B3 wr (w.heap.size + 1) 28 (.int .i64 (C : Int)) (.int .i64 (K : Int)) (.slice a' n' cap')) ∧ Hid (B3 wr (w.heap.size + 1 + 1) 28 (.int .i64 0) (.int .i64 0) (.slice none 0 0)) ∧ Hid (B3 wr (w.heap.size + 1 + 1 + 1) 28 (.int .i64 (R : Int)) (.int .i64 (K : Int)) vo) ∧ Hid (B3 wr pT 28 (.int .i64 (K : Int)) (.int .i64 (C : Int)) (.slice aT nT cT)) ∧ Hid (OwnV wr w.heap.size (.slice aT nT cT) U xT) ∧ Hid (OwnV wr S2 vo (prM inn L U C K i) xs) ∧ Hid (S2 ≤ wr.heap.size) ∧ Hid (Below w.heap.size w wr)) (fun iv _ => R - (intOf iv).toNat)
  case atStart => exact ⟨0, .slice none 0 0, [], Nat.zero_le _, rfl, A2, N2, Y2, O2, T2, V2, Lib.hid (OwnV.nil _ _), SL, B2⟩
  case round =>
    clear A2 N2 Y2 O2 T2 V2 SL B2
    obtain ⟨i, vo, xs, hi, rfl, A, N, Y, O, T, V, X, SL, B⟩ := hrel
    by_cases hlt : i < R
    · have a0 := A.out.c0
      go_wp2_with fail
      clear a0
      go_loopw [8] (fun kv wr => ∃ (k : Nat) (vo : Value) (xs : List (Value × Value)), k ≤ K ∧ kv = .int .i64 k ∧ Hid (B3 wr w.heap.size 28 (.int .i64 (R : Int)) (.int .i64 (C : Int)) (.slice a n cap)) ∧ Hid (B3 wr (w.heap.size + 1) 28 (.int .i64 (C : Int)) (.int .i64 (K : Int)) (.slice a' n' cap')) ∧ Hid (B3 wr (w.heap.size + 1 + 1) 28 (.int .i64 0) (.int .i64 0) (.slice none 0 0)) ∧ Hid (B3 wr (w.heap.size + 1 + 1 + 1) 28 (.int .i64 (R : Int)) (.int .i64 (K : Int)) vo) ∧ Hid (B3 wr pT 28 (.int .i64 (K : Int)) (.int .i64 (C : Int)) (.slice aT nT cT)) ∧ Hid (OwnV wr w.heap.size (.slice aT nT cT) U xT) ∧ Hid (OwnV wr S2 vo (prM inn L U C K i ++ prC inn L U C i k) xs) ∧ Hid (S2 ≤ wr.heap.size) ∧ Hid (Below w.heap.size w wr)) (fun kv _ => K - (intOf kv).toNat)
      case atStart => exact ⟨0, vo, xs, Nat.zero_le _, rfl, A, N, Y, O, T, V, Lib.hid (by rw [show prC inn L U C i 0 = [] from rfl, List.append_nil]; exact X.out), SL, B⟩
      case round =>
        clear A N Y O T V X SL B xs vo
        obtain ⟨k, vo, xs, hk, rfl, A, N, Y, O, T, V, X, SL, B⟩ := hrel
        have n1 := N.out.c1
        by_cases hlk : k < K
        · have a0 := A.out.c0
          have a1 := A.out.c1
          have a2 := A.out.c2
          have t0 := T.out.c0
          have t1 := T.out.c1
          have t2 := T.out.c2
          have o2 := O.out.c2
          have o3 := O.out.f 2
          have hin : i * C + C ≤ n := by have := row_in (C := C) hlt; rw [HRC.out]; omega
          have hik : k * C + C ≤ nT := by have := row_in (C := C) hlk; rw [HNT.out, HLU.out]; omega
          have HRA := Lib.hid (fun W (hW : Below wr.heap.size wr W) => (spec_row (R : Int) C i n a cap L W (HR.out.below (B.out.trans (hW.mono B.out.size))) hin hn hC (by omega)).mono (R' := fun e w' => ∃ v, e = .returned v ∧ RatsAt w' v (rowM L C i) ∧ Below wr.heap.size wr w') (fun e w' ⟨v, he, hr, hb⟩ => ⟨v, he, hr, hW.trans (hb.mono hW.size)⟩))
          have HRT := Lib.hid (fun W (hW : Below wr.heap.size wr W) => (spec_row (K : Int) C k nT aT cT U W (V.out.below hW).rats hik (by rw [HNT.out, HLU.out]; omega) hC (by omega)).mono (R' := fun e w' => ∃ v, e = .returned v ∧ RatsAt w' v (rowM U C k) ∧ Below wr.heap.size wr w' ∧ Below W.heap.size W w') (fun e w' ⟨v, he, hr, hb⟩ => ⟨v, he, hr, hW.trans (hb.mono hW.size), hb⟩))
          have HIP := Lib.hid (fun W v0 v1 (h0 : RatsAt W v0 (rowM L C i)) (h1 : RatsAt W v1 (rowM U C k)) (hW : Below wr.heap.size wr W) => (HIN v0 _ v1 _ W h0 h1 (by rw [rowM_len HLR.out hlt, rowM_len HLU.out hlk]) (by rw [rowM_len HLR.out hlt]; exact hC) (rowM_all (P := fun f => ok f.neg f.mag f.den = true) HE.out) (rowM_all (P := fun f => ok f.neg f.mag f.den = true) HEU.out)).mono (R' := fun e w' => ∃ x y, e = .returned (.agg #[.bool (inn (rowM L C i) (rowM U C k)).neg, x, y]) ∧ OwnR w' wr.heap.size x (inn (rowM L C i) (rowM U C k)).mag y (inn (rowM L C i) (rowM U C k)).den ∧ Below wr.heap.size wr w') (fun e w' ⟨x, y, he, hr, hb⟩ => ⟨x, y, he, hr.base hW.size, hW.trans (hb.mono hW.size)⟩))
          have HP := Lib.hid (show prM inn L U C K i ++ prC inn L U C i (k + 1) = (prM inn L U C K i ++ prC inn L U C i k) ++ [inn (rowM L C i) (rowM U C k)] by rw [prC_succ, List.append_assoc])
          have HPL := Lib.hid (show (prM inn L U C K i ++ prC inn L U C i k).length ≤ 100000 by rw [List.length_append, prM_len, prC_len]; have := Nat.mul_le_mul (show i ≤ 24 by omega) hK; omega)
          have HQ1 := Lib.hid (rowM_len HLR.out hlt)
          have HQ2 := Lib.hid (rowM_len HLU.out hlk)
          obtain ⟨Q1, hQ1⟩ : ∃ Q, Q = rowM L C i := ⟨_, rfl⟩
          obtain ⟨Q2, hQ2⟩ : ∃ Q, Q = rowM U C k := ⟨_, rfl⟩
          obtain ⟨P, hP⟩ : ∃ P, P = prM inn L U C K i ++ prC inn L U C i k := ⟨_, rfl⟩
          rw [← hQ1] at HRA HIP HP HQ1
          rw [← hQ2] at HRT HIP HP HQ2
          rw [← hP] at HP HPL X
          obtain ⟨h, hh⟩ : ∃ h, h = inn Q1 Q2 := ⟨_, rfl⟩
          rw [← hh] at HIP HP
          clear hP hin hik hQ1 hQ2 hh
          have HO := Lib.hid (fun W (hW : Below wr.heap.size wr W) => O.out.below hW)
          have HA := Lib.hid (fun W (hW : Below wr.heap.size wr W) => A.out.below hW)
          have HT := Lib.hid (fun W (hW : Below wr.heap.size wr W) => T.out.below hW)
          have BS := Lib.hid B.out.size
          have L9 := Lib.hid X.out.lt
          go_wp2_with fail
          go_region_law (first
            | (have hbb := bb_r.size; have lr := O_r.out.lt; refine step_append_rat rfl _ _ rfl S2 vo P xs rfl (by first | with_reducible exact (X.out.below bb_r).alloc _ | with_reducible exact ((X.out.below bb_r).alloc _).drew | fail) HPL.out (by have := SL.out; simp; omega) _ _ rfl h _ _ (by first | exact World.alloc_heap_new _ _ | fail) (OwnR.base (O_r.out.alloc _) SL.out) (fun i hi r r' h1 h2 => by have h3 := (L9.out r (.inr ⟨_, List.getElem_mem hi, h1⟩)).2; have h4 := (lr r' h2).1; omega) (fun r h2 h1 => by have h3 := (L9.out r (.inl h1)).2; have h4 := (lr r h2).1; omega) ?_; intro v_n w_n o_n g_n l_n; have VV := (X.out.below bb_r).alloc (.cells #[.bool h.neg, .slice a_r h.mag.length c_r, .slice e_r h.den.length f_r] 60); have O5 := ((HO.out _ bb_r).alloc (.cells #[.bool h.neg, .slice a_r h.mag.length c_r, .slice e_r h.den.length f_r] 60)).grown VV (by decide) (by decide) g_n; have s2 := O5.c2; have s3 := O5.f 2; obtain ⟨g9, c9, hv9⟩ := o_n.slice; subst hv9; rw [show (P ++ [h]).length = P.length + 1 from by simp] at o_n ⊢)
            | (go_simp; go_at_call 39; with_reducible refine (HIP.out _ _ _ (R_a.out.below bt_t) R_t.out bb_t).mono ?_; rintro e w_r ⟨x_r, y_r, rfl, o_r, bb_r⟩; obtain ⟨a_r, c_r, e_r, f_r, rfl, rfl⟩ := o_r.slices; have O_r := Lib.hid o_r; have z2 := ((HO.out _ bb_r).alloc (.cells #[.bool h.neg, .slice a_r h.mag.length c_r, .slice e_r h.den.length f_r] 60)).c2; have Or := HO.out _ bb_r; have or_2 := Or.c2; have qr := Or.f 2)
            | (go_simp; go_at_call 40; with_reducible refine (HRA.out _ (by first | with_reducible exact Below.refl _ _ | with_reducible exact (Below.refl _ _).drew | fail)).mono ?_; rintro e w_a ⟨v_a, rfl, r_a, bb_a⟩; obtain ⟨a_a, c_a, rfl, _, _⟩ := ratsAt_form r_a; rw [HQ1.out] at r_a ⊢; have R_a := Lib.hid r_a; clear r_a a0 a1 a2 t0 t1 t2; have Oa := HO.out _ bb_a; have oa_2 := Oa.c2; have qa := Oa.f 2; have Ta := HT.out _ bb_a; have ta_0 := Ta.c0; have ta_1 := Ta.c1; have ta_2 := Ta.c2)
            | (go_simp; go_at_call 40; with_reducible refine (HRT.out _ (by first | with_reducible exact Below.refl _ _ | with_reducible exact (Below.refl _ _).drew | with_reducible exact bb_a | with_reducible exact bb_a.drew | fail)).mono ?_; rintro e w_t ⟨v_t, rfl, r_t, bb_t, bt_t⟩; obtain ⟨a_t, c_t, rfl, _, _⟩ := ratsAt_form r_t; rw [HQ2.out] at r_t ⊢; have R_t := Lib.hid r_t; clear r_t ta_0 ta_1 ta_2; have Ot := HO.out _ bb_t; have ot_2 := Ot.c2; have qt := Ot.f 2)
            | fail)
          all_goals go_wp2_with fail
          all_goals exact ⟨⟨k + 1, _, _, by omega, by go_num, Lib.hid ((((HA.out _ bb_r).alloc _).grown VV (by decide) (by decide) g_n).far (by omega) _), Lib.hid ((((N.out.below bb_r).alloc _).grown VV (by decide) (by decide) g_n).far (by omega) _), Lib.hid ((((Y.out.below bb_r).alloc _).grown VV (by decide) (by decide) g_n).far (by omega) _), Lib.hid (O5.set2 _), Lib.hid ((((HT.out _ bb_r).alloc _).grown VV (by decide) (by decide) g_n).far (by have := PT.out; omega) _), Lib.hid ((((V.out.below bb_r).alloc (.cells #[.bool h.neg, .slice a_r h.mag.length c_r, .slice e_r h.den.length f_r] 60)).kept (Kept.of_grown g_n) (fun q hq e => by have h1 := HTL.out q hq; have h2 := (L9.out q (.inl e)).1; omega)).set_b3 O5 (by decide) (by decide) 2 _), Lib.hid (by rw [HP.out]; exact o_n.set_b3 O5 (by decide) (by decide) 2 _), Lib.hid (by have h1 := SL.out; have h2 := g_n.size; simp at h2 ⊢; omega), Lib.hid ((((B.out.trans (bb_r.mono BS.out)).alloc (Nat.le_trans BS.out hbb) _).grown g_n (by have := BS.out; simp; omega) (fun q hq => Nat.le_trans WS.out (L9.out q (.inl hq)).1)).setCell (by simp; omega) _)⟩, by simp [intOf]; omega⟩
        · obtain rfl : k = K := by omega
          have X9 := Lib.hid (show OwnV wr S2 vo (prM inn L U C k (i + 1)) xs by rw [prM_succ]; exact X.out)
          go_wp2_with fail
          exact ⟨⟨i + 1, vo, xs, by omega, by go_num, A, N, Y, O, T, V, X9, SL, B⟩, by simp [intOf]; omega⟩
    · obtain rfl : i = R := by omega
      have a0 := A.out.c0
      have y0 := O.out.c0
      have y1 := O.out.c1
      have y2 := O.out.c2
      have z0 := Y.out.c0
      have z1 := Y.out.c1
      have z2 := Y.out.c2
      have x0 := Y.out.f 0
      have x1 := Y.out.f 1
      have x2 := Y.out.f 2
      rw [← HZ.out] at X
      obtain ⟨g9, c9, rfl⟩ := X.out.slice
      have V9 := Lib.hid ((X.out.base WS.out).set3_b3 Y.out (by decide) (by decide) (.int .i64 (i : Int)) (.int .i64 (K : Int)) (.slice g9 Z.length c9))
      have B9 := Lib.hid (((B.out.setCell (p := ⟨w.heap.size + 1 + 1, 0, none⟩) (by simp; omega) (.int .i64 (i : Int))).setCell (p := ⟨w.heap.size + 1 + 1, 1, none⟩) (by simp; omega) (.int .i64 (K : Int))).setCell (p := ⟨w.heap.size + 1 + 1, 2, none⟩) (by simp; omega) (.slice g9 Z.length c9))
      have D8 := Y.out.set3 (.int .i64 (i : Int)) (.int .i64 (K : Int)) (.slice g9 Z.length c9)
      have hc0 := D8.c0; have hc1 := D8.c1; have hc2 := D8.c2
      clear D8
      go_wp2_with fail
      exact bodyPost_ret (v := .agg #[.int .i64 (i : Int), .int .i64 (K : Int), .slice g9 Z.length c9]) (by simp [results, Tryz.results21, go_sem, hc0, hc1, hc2]) rfl ⟨_, _, rfl, V9.out, B9.out⟩

end Go.Proofs.YtojklmckjebplaaGreat

/-! MatProd -/
namespace Go.Proofs.YtojklmckjebplaaGreat
set_option maxRecDepth 100000
set_option linter.unusedVariables false
set_option linter.unusedSimpArgs false
open Go.RowKit Go.WideShapes Go.ChangeShapes
set_option linter.unusedVariables false
set_option linter.unusedSimpArgs false
def mpV (inn : List Fr → List Fr → Fr) (r c : Int) (L : List Fr) (r' c' : Int) (L' : List Fr) : List Fr := prM inn L (trM L' r'.toNat c'.toNat c'.toNat) c.toNat c'.toNat r.toNat
def mpB (ok : Bool → List Int → List Int → Bool) (inn : List Fr → List Fr → Fr) (r c : Int) (L : List Fr) (r' c' : Int) (L' : List Fr) : Bool := matB ok r c L && (matB ok r' c' L' && ((c == r') && fineV (mpV inn r c L r' c' L')))
def mpL (ok : Bool → List Int → List Int → Bool) (inn : List Fr → List Fr → Fr) (r c : Int) (L : List Fr) (r' c' : Int) (L' : List Fr) : List Fr := if mpB ok inn r c L r' c' L' then mpV inn r c L r' c' L' else []
def mpR (ok : Bool → List Int → List Int → Bool) (inn : List Fr → List Fr → Fr) (r c : Int) (L : List Fr) (r' c' : Int) (L' : List Fr) : Int := if mpB ok inn r c L r' c' L' then r else 0
def mpC (ok : Bool → List Int → List Int → Bool) (inn : List Fr → List Fr → Fr) (r c : Int) (L : List Fr) (r' c' : Int) (L' : List Fr) : Int := if mpB ok inn r c L r' c' L' then c' else 0
theorem mp_no {ok : Bool → List Int → List Int → Bool} {inn : List Fr → List Fr → Fr} {r c : Int} {L : List Fr} {r' c' : Int} {L' : List Fr} (h : mpB ok inn r c L r' c' L' = false) :
    mpL ok inn r c L r' c' L' = [] ∧ mpR ok inn r c L r' c' L' = 0 ∧ mpC ok inn r c L r' c' L' = 0 := by unfold mpL mpR mpC; rw [h]; exact ⟨rfl, rfl, rfl⟩
theorem mp_yes {ok : Bool → List Int → List Int → Bool} {inn : List Fr → List Fr → Fr} {r c : Int} {L : List Fr} {r' c' : Int} {L' : List Fr} (h : mpB ok inn r c L r' c' L' = true) :
    mpL ok inn r c L r' c' L' = mpV inn r c L r' c' L' ∧ mpR ok inn r c L r' c' L' = r ∧ mpC ok inn r c L r' c' L' = c' := by unfold mpL mpR mpC; rw [h]; exact ⟨rfl, rfl, rfl⟩

set_option maxRecDepth 100000 in
set_option maxHeartbeats 4000000 in
theorem spec_multiply (ok : Bool → List Int → List Int → Bool)
    (HOK : ∀ b v zs d ds w, RowR w v zs d ds → Calls Tryz.prog 36 #[.agg #[.bool b, v, d]] w fun r w' => r = .returned (.bool (ok b zs ds)) ∧ Below w.heap.size w w')
    (HC : ∀ (f : Fr), ok f.neg f.mag f.den = true → ∀ v d w, RowR w v f.mag d f.den → Calls Tryz.prog 60 #[.agg #[.bool f.neg, v, d]] w fun r w' => ∃ x y, r = .returned (.agg #[.bool f.neg, x, y]) ∧ OwnR w' w.heap.size x f.mag y f.den ∧ Below w.heap.size w w') (inn : List Fr → List Fr → Fr)
    (HIN : ∀ v0 L0 v1 L1 w, RatsAt w v0 L0 → RatsAt w v1 L1 → L0.length = L1.length → L0.length ≤ 24 → (∀ k (hk : k < L0.length), ok (L0[k]'hk).neg (L0[k]'hk).mag (L0[k]'hk).den = true) → (∀ k (hk : k < L1.length), ok (L1[k]'hk).neg (L1[k]'hk).mag (L1[k]'hk).den = true) →
      Calls Tryz.prog 39 #[v0, v1] w fun r w' => ∃ x y, r = .returned (.agg #[.bool (inn L0 L1).neg, x, y]) ∧ OwnR w' w.heap.size x (inn L0 L1).mag y (inn L0 L1).den ∧ Below w.heap.size w w')
    (r c : Int) (v : Value) (L : List Fr) (r' c' : Int) (v' : Value) (L' : List Fr) (w : World) (h : RatsAt w v L) (h' : RatsAt w v' L') :
    Calls Tryz.prog 6 #[.agg #[.int .i64 r, .int .i64 c, v], .agg #[.int .i64 r', .int .i64 c', v']] w fun e w' => ∃ u xs, e = .returned (.tuple #[.agg #[.int .i64 (mpR ok inn r c L r' c' L'), .int .i64 (mpC ok inn r c L r' c' L'), u], .bool (mpB ok inn r c L r' c' L')]) ∧ OwnV w' w.heap.size u (mpL ok inn r c L r' c' L') xs ∧ Below w.heap.size w w' := by
  have HR := Lib.hid h
  have HR' := Lib.hid h'
  obtain ⟨a, cap, rfl, hc, hm⟩ := ratsAt_form h
  obtain ⟨a', cap', rfl, hc', hm'⟩ := ratsAt_form h'
  clear h h'
  obtain ⟨n, hnn⟩ : ∃ n, L.length = n := ⟨_, rfl⟩
  obtain ⟨n', hnn'⟩ : ∃ n, L'.length = n := ⟨_, rfl⟩
  rw [hnn] at hc HR ⊢
  rw [hnn'] at hc' HR' ⊢
  have HN := Lib.hid hnn
  have HN' := Lib.hid hnn'
  clear hnn hnn'
  cases q0 : matB ok r c L with
  | false =>
    have HF := (show mpB ok inn r c L r' c' L' = false by unfold mpB; rw [q0]; rfl)
    rw [HF, (mp_no HF).1, (mp_no HF).2.1, (mp_no HF).2.2]
    clear HF
    go_enter Tryz.func6, Tryz.ntmps6
    go_wp2_with fail
    obtain ⟨W0, hW0⟩ : ∃ x, x = ((w.alloc (.cells #[.int .i64 r, .int .i64 c, .slice a n cap] 28)).alloc (.cells #[.int .i64 r', .int .i64 c', .slice a' n' cap'] 28)).alloc (.cells #[.int .i64 0, .int .i64 0, .slice none 0 0] 28) := ⟨_, rfl⟩
    have D := Lib.hid (show B3 W0 w.heap.size 28 (.int .i64 r) (.int .i64 c) (.slice a n cap) by rw [hW0]; exact ((B3.new _ _ _ _ _).alloc _).alloc _)
    have E := Lib.hid (show B3 W0 (w.heap.size + 1) 28 (.int .i64 r') (.int .i64 c') (.slice a' n' cap') by rw [hW0]; exact b3_at ((B3.new _ _ _ _ _).alloc _) (by simp))
    have Z := Lib.hid (show B3 W0 (w.heap.size + 1 + 1) 28 (.int .i64 0) (.int .i64 0) (.slice none 0 0) by rw [hW0]; exact b3_at (B3.new _ _ _ _ _) (by simp))
    have B0 := Lib.hid (show Below w.heap.size w W0 by rw [hW0]; exact (((Below.refl _ _).alloc (Nat.le_refl _) _).alloc (by simp) _).alloc (by simp; omega) _)
    rw [← hW0]
    clear hW0
    try (have d0 := D.out.c0; have d1 := D.out.c1; have d2 := D.out.c2; go_wp2_with fail)
    have T := spec_matrixOk ok HOK r c _ L W0 (HR.out.below B0.out)
    rw [q0] at T
    refine T.mono ?_
    rintro e w1 ⟨rfl, b1⟩
    replace D := Lib.hid (D.out.below b1)
    replace E := Lib.hid (E.out.below b1)
    replace Z := Lib.hid (Z.out.below b1)
    replace B0 := Lib.hid (B0.out.trans (b1.mono B0.out.size))
    clear b1 T
    have z0 := Z.out.c0
    have z1 := Z.out.c1
    have z2 := Z.out.c2
    have x0 := Z.out.f 0
    have x1 := Z.out.f 1
    have x2 := Z.out.f 2
    have V9 := Lib.hid (OwnV.set3_b3 (OwnV.nil _ w.heap.size) Z.out (by decide) (by decide) (.int .i64 0) (.int .i64 0) (.slice none 0 0))
    have B9 := Lib.hid (((B0.out.setCell (p := ⟨w.heap.size + 1 + 1, 0, none⟩) (by simp; omega) (.int .i64 0)).setCell (p := ⟨w.heap.size + 1 + 1, 1, none⟩) (by simp; omega) (.int .i64 0)).setCell (p := ⟨w.heap.size + 1 + 1, 2, none⟩) (by simp; omega) (.slice none 0 0))
    have D8 := Z.out.set3 (.int .i64 0) (.int .i64 0) (.slice none 0 0)
    have hc0 := D8.c0; have hc1 := D8.c1; have hc2 := D8.c2
    clear D8
    go_wp2_with fail
    exact bodyPost_ret (v := .tuple #[.agg #[(.int .i64 0), (.int .i64 0), (.slice none 0 0)], .bool false]) (by simp [results, Tryz.results6, go_sem, hc0, hc1, hc2]) rfl ⟨_, _, rfl, V9.out, B9.out⟩
  | true =>
  cases q1 : matB ok r' c' L' with
  | false =>
    have HF := (show mpB ok inn r c L r' c' L' = false by unfold mpB; rw [q0, q1]; rfl)
    rw [HF, (mp_no HF).1, (mp_no HF).2.1, (mp_no HF).2.2]
    clear HF
    go_enter Tryz.func6, Tryz.ntmps6
    go_wp2_with fail
    obtain ⟨W0, hW0⟩ : ∃ x, x = ((w.alloc (.cells #[.int .i64 r, .int .i64 c, .slice a n cap] 28)).alloc (.cells #[.int .i64 r', .int .i64 c', .slice a' n' cap'] 28)).alloc (.cells #[.int .i64 0, .int .i64 0, .slice none 0 0] 28) := ⟨_, rfl⟩
    have D := Lib.hid (show B3 W0 w.heap.size 28 (.int .i64 r) (.int .i64 c) (.slice a n cap) by rw [hW0]; exact ((B3.new _ _ _ _ _).alloc _).alloc _)
    have E := Lib.hid (show B3 W0 (w.heap.size + 1) 28 (.int .i64 r') (.int .i64 c') (.slice a' n' cap') by rw [hW0]; exact b3_at ((B3.new _ _ _ _ _).alloc _) (by simp))
    have Z := Lib.hid (show B3 W0 (w.heap.size + 1 + 1) 28 (.int .i64 0) (.int .i64 0) (.slice none 0 0) by rw [hW0]; exact b3_at (B3.new _ _ _ _ _) (by simp))
    have B0 := Lib.hid (show Below w.heap.size w W0 by rw [hW0]; exact (((Below.refl _ _).alloc (Nat.le_refl _) _).alloc (by simp) _).alloc (by simp; omega) _)
    rw [← hW0]
    clear hW0
    try (have d0 := D.out.c0; have d1 := D.out.c1; have d2 := D.out.c2; go_wp2_with fail)
    have T := spec_matrixOk ok HOK r c _ L W0 (HR.out.below B0.out)
    rw [q0] at T
    refine T.mono ?_
    rintro e w1 ⟨rfl, b1⟩
    replace D := Lib.hid (D.out.below b1)
    replace E := Lib.hid (E.out.below b1)
    replace Z := Lib.hid (Z.out.below b1)
    replace B0 := Lib.hid (B0.out.trans (b1.mono B0.out.size))
    clear b1 T
    have e0 := E.out.c0
    have e1 := E.out.c1
    have e2 := E.out.c2
    go_wp2_with fail
    clear e0 e1 e2
    have T := spec_matrixOk ok HOK r' c' _ L' w1 (HR'.out.below B0.out)
    rw [q1] at T
    refine T.mono ?_
    rintro e w2 ⟨rfl, b1⟩
    replace D := Lib.hid (D.out.below b1)
    replace E := Lib.hid (E.out.below b1)
    replace Z := Lib.hid (Z.out.below b1)
    replace B0 := Lib.hid (B0.out.trans (b1.mono B0.out.size))
    clear b1 T
    have d0 := D.out.c0
    have d1 := D.out.c1
    have d2 := D.out.c2
    have e0 := E.out.c0
    have e1 := E.out.c1
    have e2 := E.out.c2
    have z0 := Z.out.c0
    have z1 := Z.out.c1
    have z2 := Z.out.c2
    have x0 := Z.out.f 0
    have x1 := Z.out.f 1
    have x2 := Z.out.f 2
    have V9 := Lib.hid (OwnV.set3_b3 (OwnV.nil _ w.heap.size) Z.out (by decide) (by decide) (.int .i64 0) (.int .i64 0) (.slice none 0 0))
    have B9 := Lib.hid (((B0.out.setCell (p := ⟨w.heap.size + 1 + 1, 0, none⟩) (by simp; omega) (.int .i64 0)).setCell (p := ⟨w.heap.size + 1 + 1, 1, none⟩) (by simp; omega) (.int .i64 0)).setCell (p := ⟨w.heap.size + 1 + 1, 2, none⟩) (by simp; omega) (.slice none 0 0))
    have D8 := Z.out.set3 (.int .i64 0) (.int .i64 0) (.slice none 0 0)
    have hc0 := D8.c0; have hc1 := D8.c1; have hc2 := D8.c2
    clear D8
    go_wp2_with fail
    exact bodyPost_ret (v := .tuple #[.agg #[(.int .i64 0), (.int .i64 0), (.slice none 0 0)], .bool false]) (by simp [results, Tryz.results6, go_sem, hc0, hc1, hc2]) rfl ⟨_, _, rfl, V9.out, B9.out⟩
  | true =>
  by_cases q2 : c = r'
  rotate_left
  · have hne : (c == r') = false := by rw [beq_eq_false_iff_ne]; exact q2
    have hne2 : (c != r') = true := by unfold bne; rw [hne]; rfl
    have HF := (show mpB ok inn r c L r' c' L' = false by unfold mpB; rw [q0, q1, hne]; rfl)
    rw [HF, (mp_no HF).1, (mp_no HF).2.1, (mp_no HF).2.2]
    clear HF
    go_enter Tryz.func6, Tryz.ntmps6
    go_wp2_with fail
    obtain ⟨W0, hW0⟩ : ∃ x, x = ((w.alloc (.cells #[.int .i64 r, .int .i64 c, .slice a n cap] 28)).alloc (.cells #[.int .i64 r', .int .i64 c', .slice a' n' cap'] 28)).alloc (.cells #[.int .i64 0, .int .i64 0, .slice none 0 0] 28) := ⟨_, rfl⟩
    have D := Lib.hid (show B3 W0 w.heap.size 28 (.int .i64 r) (.int .i64 c) (.slice a n cap) by rw [hW0]; exact ((B3.new _ _ _ _ _).alloc _).alloc _)
    have E := Lib.hid (show B3 W0 (w.heap.size + 1) 28 (.int .i64 r') (.int .i64 c') (.slice a' n' cap') by rw [hW0]; exact b3_at ((B3.new _ _ _ _ _).alloc _) (by simp))
    have Z := Lib.hid (show B3 W0 (w.heap.size + 1 + 1) 28 (.int .i64 0) (.int .i64 0) (.slice none 0 0) by rw [hW0]; exact b3_at (B3.new _ _ _ _ _) (by simp))
    have B0 := Lib.hid (show Below w.heap.size w W0 by rw [hW0]; exact (((Below.refl _ _).alloc (Nat.le_refl _) _).alloc (by simp) _).alloc (by simp; omega) _)
    rw [← hW0]
    clear hW0
    try (have d0 := D.out.c0; have d1 := D.out.c1; have d2 := D.out.c2; go_wp2_with fail)
    have T := spec_matrixOk ok HOK r c _ L W0 (HR.out.below B0.out)
    rw [q0] at T
    refine T.mono ?_
    rintro e w1 ⟨rfl, b1⟩
    replace D := Lib.hid (D.out.below b1)
    replace E := Lib.hid (E.out.below b1)
    replace Z := Lib.hid (Z.out.below b1)
    replace B0 := Lib.hid (B0.out.trans (b1.mono B0.out.size))
    clear b1 T
    have e0 := E.out.c0
    have e1 := E.out.c1
    have e2 := E.out.c2
    go_wp2_with fail
    clear e0 e1 e2
    have T := spec_matrixOk ok HOK r' c' _ L' w1 (HR'.out.below B0.out)
    rw [q1] at T
    refine T.mono ?_
    rintro e w2 ⟨rfl, b1⟩
    replace D := Lib.hid (D.out.below b1)
    replace E := Lib.hid (E.out.below b1)
    replace Z := Lib.hid (Z.out.below b1)
    replace B0 := Lib.hid (B0.out.trans (b1.mono B0.out.size))
    clear b1 T
    have d0 := D.out.c0
    have d1 := D.out.c1
    have d2 := D.out.c2
    have e0 := E.out.c0
    have e1 := E.out.c1
    have e2 := E.out.c2
    have z0 := Z.out.c0
    have z1 := Z.out.c1
    have z2 := Z.out.c2
    have x0 := Z.out.f 0
    have x1 := Z.out.f 1
    have x2 := Z.out.f 2
    have V9 := Lib.hid (OwnV.set3_b3 (OwnV.nil _ w.heap.size) Z.out (by decide) (by decide) (.int .i64 0) (.int .i64 0) (.slice none 0 0))
    have B9 := Lib.hid (((B0.out.setCell (p := ⟨w.heap.size + 1 + 1, 0, none⟩) (by simp; omega) (.int .i64 0)).setCell (p := ⟨w.heap.size + 1 + 1, 1, none⟩) (by simp; omega) (.int .i64 0)).setCell (p := ⟨w.heap.size + 1 + 1, 2, none⟩) (by simp; omega) (.slice none 0 0))
    have D8 := Z.out.set3 (.int .i64 0) (.int .i64 0) (.slice none 0 0)
    have hc0 := D8.c0; have hc1 := D8.c1; have hc2 := D8.c2
    clear D8
    go_wp2_with fail
    exact bodyPost_ret (v := .tuple #[.agg #[(.int .i64 0), (.int .i64 0), (.slice none 0 0)], .bool false]) (by simp [results, Tryz.results6, go_sem, hc0, hc1, hc2]) rfl ⟨_, _, rfl, V9.out, B9.out⟩
  obtain ⟨R, C, rfl, rfl, hR, hC, hLn, hRC, hE⟩ := matB_parts q0
  obtain ⟨C2, K, rfl, rfl, _, hK, hLn', hRC', hE'⟩ := matB_parts q1
  obtain rfl : C2 = C := by omega
  have HF := Lib.hid (show mpB ok inn R C2 L C2 K L' = fineV (mpV inn R C2 L C2 K L') by unfold mpB; rw [q0, q1, beq_self_eq_true]; rfl)
  have HT := Lib.hid (fun W (hW : Below w.heap.size w W) => spec_multiplied ok HC inn HIN R C2 K n n' a cap L a' cap' L' W (HR.out.below hW) (HR'.out.below hW) hR hC hK (by rw [← HN.out]; omega) (by rw [← HN'.out]; omega) HN.out (by rw [← HN.out]; exact hLn) HN'.out (by rw [← HN'.out]; exact hLn') hE hE')
  have HP := Lib.hid (show mpV inn R C2 L C2 K L' = prM inn L (trM L' C2 K K) C2 K R by unfold mpV; simp only [Int.toNat_natCast])
  clear hE hE' hLn hRC hLn' hRC' q2
  obtain ⟨P, hP⟩ : ∃ P, P = prM inn L (trM L' C2 K K) C2 K R := ⟨_, rfl⟩
  rw [← hP] at HT HP
  rw [HP.out] at HF
  clear hP
  obtain ⟨C, hCC⟩ : ∃ C, C = C2 := ⟨_, rfl⟩
  subst hCC
  cases hb : fineV P with
  | true =>
    have e9 := HF.out.trans hb
    rw [e9, (mp_yes e9).1, (mp_yes e9).2.1, (mp_yes e9).2.2, HP.out]
    clear e9 HF HP
    go_enter Tryz.func6, Tryz.ntmps6
    go_wp2_with fail
    obtain ⟨W0, hW0⟩ : ∃ x, x = ((w.alloc (.cells #[.int .i64 (R : Int), .int .i64 (C : Int), .slice a n cap] 28)).alloc (.cells #[.int .i64 (C : Int), .int .i64 (K : Int), .slice a' n' cap'] 28)).alloc (.cells #[.int .i64 0, .int .i64 0, .slice none 0 0] 28) := ⟨_, rfl⟩
    have D := Lib.hid (show B3 W0 w.heap.size 28 (.int .i64 (R : Int)) (.int .i64 (C : Int)) (.slice a n cap) by rw [hW0]; exact ((B3.new _ _ _ _ _).alloc _).alloc _)
    have E := Lib.hid (show B3 W0 (w.heap.size + 1) 28 (.int .i64 (C : Int)) (.int .i64 (K : Int)) (.slice a' n' cap') by rw [hW0]; exact b3_at ((B3.new _ _ _ _ _).alloc _) (by simp))
    have Z := Lib.hid (show B3 W0 (w.heap.size + 1 + 1) 28 (.int .i64 0) (.int .i64 0) (.slice none 0 0) by rw [hW0]; exact b3_at (B3.new _ _ _ _ _) (by simp))
    have B0 := Lib.hid (show Below w.heap.size w W0 by rw [hW0]; exact (((Below.refl _ _).alloc (Nat.le_refl _) _).alloc (by simp) _).alloc (by simp; omega) _)
    rw [← hW0]
    clear hW0
    try (have d0 := D.out.c0; have d1 := D.out.c1; have d2 := D.out.c2; go_wp2_with fail)
    have T := spec_matrixOk ok HOK R C _ L W0 (HR.out.below B0.out)
    rw [q0] at T
    refine T.mono ?_
    rintro e w1 ⟨rfl, b1⟩
    replace D := Lib.hid (D.out.below b1)
    replace E := Lib.hid (E.out.below b1)
    replace Z := Lib.hid (Z.out.below b1)
    replace B0 := Lib.hid (B0.out.trans (b1.mono B0.out.size))
    clear b1 T
    have e0 := E.out.c0
    have e1 := E.out.c1
    have e2 := E.out.c2
    go_wp2_with fail
    clear e0 e1 e2
    have T := spec_matrixOk ok HOK C K _ L' w1 (HR'.out.below B0.out)
    rw [q1] at T
    refine T.mono ?_
    rintro e w2 ⟨rfl, b1⟩
    replace D := Lib.hid (D.out.below b1)
    replace E := Lib.hid (E.out.below b1)
    replace Z := Lib.hid (Z.out.below b1)
    replace B0 := Lib.hid (B0.out.trans (b1.mono B0.out.size))
    clear b1 T
    have d0 := D.out.c0
    have d1 := D.out.c1
    have d2 := D.out.c2
    have e0 := E.out.c0
    have e1 := E.out.c1
    have e2 := E.out.c2
    go_wp2_with fail
    refine (HT.out _ B0.out).mono ?_
    rintro e w3 ⟨v3, x3, rfl, o3, b3⟩
    obtain ⟨a3, c3, rfl⟩ := o3.slice
    replace Z := Lib.hid (Z.out.below b3)
    have V := Lib.hid (o3.base B0.out.size)
    replace B0 := Lib.hid (B0.out.trans (b3.mono B0.out.size))
    have T := spec_matDone (R : Int) (K : Int) _ P w3 o3.rats
    rw [hb] at T
    rw [if_pos rfl] at T
    clear o3 b3 d0 d1 d2 e0 e1 e2
    obtain ⟨PN, hPN⟩ : ∃ n, n = P.length := ⟨_, rfl⟩
    rw [← hPN] at T V ⊢
    clear hPN
    go_wp2_with fail
    refine T.mono ?_
    rintro e w4 ⟨rfl, b4⟩
    replace Z := Lib.hid (Z.out.below b4)
    replace V := Lib.hid (V.out.below b4)
    replace B0 := Lib.hid (B0.out.trans (b4.mono B0.out.size))
    clear b4 T
    have z0 := Z.out.c0
    have z1 := Z.out.c1
    have z2 := Z.out.c2
    have x0 := Z.out.f 0
    have x1 := Z.out.f 1
    have x2 := Z.out.f 2
    have V9 := Lib.hid (OwnV.set3_b3 V.out Z.out (by decide) (by decide) (.int .i64 (R : Int)) (.int .i64 (K : Int)) (.slice a3 PN c3))
    have B9 := Lib.hid (((B0.out.setCell (p := ⟨w.heap.size + 1 + 1, 0, none⟩) (by simp; omega) (.int .i64 (R : Int))).setCell (p := ⟨w.heap.size + 1 + 1, 1, none⟩) (by simp; omega) (.int .i64 (K : Int))).setCell (p := ⟨w.heap.size + 1 + 1, 2, none⟩) (by simp; omega) (.slice a3 PN c3))
    have D8 := Z.out.set3 (.int .i64 (R : Int)) (.int .i64 (K : Int)) (.slice a3 PN c3)
    have hc0 := D8.c0; have hc1 := D8.c1; have hc2 := D8.c2
    clear D8
    go_wp2_with fail
    exact bodyPost_ret (v := .tuple #[.agg #[(.int .i64 (R : Int)), (.int .i64 (K : Int)), (.slice a3 PN c3)], .bool true]) (by simp [results, Tryz.results6, go_sem, hc0, hc1, hc2]) rfl ⟨_, _, rfl, V9.out, B9.out⟩
  | false =>
    have e9 := HF.out.trans hb
    rw [e9, (mp_no e9).1, (mp_no e9).2.1, (mp_no e9).2.2]
    clear e9 HF HP
    go_enter Tryz.func6, Tryz.ntmps6
    go_wp2_with fail
    obtain ⟨W0, hW0⟩ : ∃ x, x = ((w.alloc (.cells #[.int .i64 (R : Int), .int .i64 (C : Int), .slice a n cap] 28)).alloc (.cells #[.int .i64 (C : Int), .int .i64 (K : Int), .slice a' n' cap'] 28)).alloc (.cells #[.int .i64 0, .int .i64 0, .slice none 0 0] 28) := ⟨_, rfl⟩
    have D := Lib.hid (show B3 W0 w.heap.size 28 (.int .i64 (R : Int)) (.int .i64 (C : Int)) (.slice a n cap) by rw [hW0]; exact ((B3.new _ _ _ _ _).alloc _).alloc _)
    have E := Lib.hid (show B3 W0 (w.heap.size + 1) 28 (.int .i64 (C : Int)) (.int .i64 (K : Int)) (.slice a' n' cap') by rw [hW0]; exact b3_at ((B3.new _ _ _ _ _).alloc _) (by simp))
    have Z := Lib.hid (show B3 W0 (w.heap.size + 1 + 1) 28 (.int .i64 0) (.int .i64 0) (.slice none 0 0) by rw [hW0]; exact b3_at (B3.new _ _ _ _ _) (by simp))
    have B0 := Lib.hid (show Below w.heap.size w W0 by rw [hW0]; exact (((Below.refl _ _).alloc (Nat.le_refl _) _).alloc (by simp) _).alloc (by simp; omega) _)
    rw [← hW0]
    clear hW0
    try (have d0 := D.out.c0; have d1 := D.out.c1; have d2 := D.out.c2; go_wp2_with fail)
    have T := spec_matrixOk ok HOK R C _ L W0 (HR.out.below B0.out)
    rw [q0] at T
    refine T.mono ?_
    rintro e w1 ⟨rfl, b1⟩
    replace D := Lib.hid (D.out.below b1)
    replace E := Lib.hid (E.out.below b1)
    replace Z := Lib.hid (Z.out.below b1)
    replace B0 := Lib.hid (B0.out.trans (b1.mono B0.out.size))
    clear b1 T
    have e0 := E.out.c0
    have e1 := E.out.c1
    have e2 := E.out.c2
    go_wp2_with fail
    clear e0 e1 e2
    have T := spec_matrixOk ok HOK C K _ L' w1 (HR'.out.below B0.out)
    rw [q1] at T
    refine T.mono ?_
    rintro e w2 ⟨rfl, b1⟩
    replace D := Lib.hid (D.out.below b1)
    replace E := Lib.hid (E.out.below b1)
    replace Z := Lib.hid (Z.out.below b1)
    replace B0 := Lib.hid (B0.out.trans (b1.mono B0.out.size))
    clear b1 T
    have d0 := D.out.c0
    have d1 := D.out.c1
    have d2 := D.out.c2
    have e0 := E.out.c0
    have e1 := E.out.c1
    have e2 := E.out.c2
    go_wp2_with fail
    refine (HT.out _ B0.out).mono ?_
    rintro e w3 ⟨v3, x3, rfl, o3, b3⟩
    obtain ⟨a3, c3, rfl⟩ := o3.slice
    replace Z := Lib.hid (Z.out.below b3)
    have V := Lib.hid (o3.base B0.out.size)
    replace B0 := Lib.hid (B0.out.trans (b3.mono B0.out.size))
    have T := spec_matDone (R : Int) (K : Int) _ P w3 o3.rats
    rw [hb] at T
    rw [if_neg (by decide)] at T
    clear o3 b3 d0 d1 d2 e0 e1 e2
    obtain ⟨PN, hPN⟩ : ∃ n, n = P.length := ⟨_, rfl⟩
    rw [← hPN] at T V ⊢
    clear hPN
    go_wp2_with fail
    refine T.mono ?_
    rintro e w4 ⟨rfl, b4⟩
    replace Z := Lib.hid (Z.out.below b4)
    replace V := Lib.hid (V.out.below b4)
    replace B0 := Lib.hid (B0.out.trans (b4.mono B0.out.size))
    clear b4 T
    have z0 := Z.out.c0
    have z1 := Z.out.c1
    have z2 := Z.out.c2
    have x0 := Z.out.f 0
    have x1 := Z.out.f 1
    have x2 := Z.out.f 2
    have V9 := Lib.hid (OwnV.set3_b3 (OwnV.nil _ w.heap.size) Z.out (by decide) (by decide) (.int .i64 0) (.int .i64 0) (.slice none 0 0))
    have B9 := Lib.hid (((B0.out.setCell (p := ⟨w.heap.size + 1 + 1, 0, none⟩) (by simp; omega) (.int .i64 0)).setCell (p := ⟨w.heap.size + 1 + 1, 1, none⟩) (by simp; omega) (.int .i64 0)).setCell (p := ⟨w.heap.size + 1 + 1, 2, none⟩) (by simp; omega) (.slice none 0 0))
    have D8 := Z.out.set3 (.int .i64 0) (.int .i64 0) (.slice none 0 0)
    have hc0 := D8.c0; have hc1 := D8.c1; have hc2 := D8.c2
    clear D8
    go_wp2_with fail
    exact bodyPost_ret (v := .tuple #[.agg #[(.int .i64 0), (.int .i64 0), (.slice none 0 0)], .bool false]) (by simp [results, Tryz.results6, go_sem, hc0, hc1, hc2]) rfl ⟨_, _, rfl, V9.out, B9.out⟩

end Go.Proofs.YtojklmckjebplaaGreat
