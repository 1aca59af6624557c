/- multiplesOf and clearFirst of the program. -/
import Derived.Test.YtlepgkkpopjgoaaGreatZElMem
import Derived.Test.YtlepgkkpopjgoaaGreatZElDiv
import Derived.Test.YtlepgkkpopjgoaaGreatZVecComb
import Derived.Test.YtlepgkkpopjgoaaGreatZVecRep
import Derived.Test.YtlepgkkpopjgoaaGreatZMatIok
namespace Go.Proofs.YtlepgkkpopjgoaaGreat
open Go.RowKit Go.WideShapes Go.ChangeShapes
set_option linter.unusedVariables false
set_option linter.unusedSimpArgs false

/-- all of a list times a fraction -/
def mulsL (f : Fr) (L : List Fr) : List Fr := L.map (fun y => mulX y f)
theorem muls_zip (f : Fr) (L : List Fr) : zipF mulX L (List.replicate L.length f) = mulsL f L := by
  unfold zipF mulsL
  induction L with
  | nil => rfl
  | cons x L ih => simp [List.replicate_succ, ih]
theorem muls_len (f : Fr) (L : List Fr) : (mulsL f L).length = L.length := by simp [mulsL]
def mulsA (f : Fr) (L : List Fr) : List Fr := if fineV (mulsL f L) then mulsL f L else []
theorem mulsA_yes {f : Fr} {L : List Fr} (h : fineV (mulsL f L) = true) : mulsA f L = mulsL f L := by unfold mulsA; rw [h]; rfl

set_option maxRecDepth 100000 in
set_option maxHeartbeats 1000000 in
theorem impl_multiplesOf (f : Fr) (hf : okF f = true) (v d u : Value) (L : List Fr) (w : World) (h0 : RowR w v f.mag d f.den) (h1 : RatsAt w u L) (hl : L.length ≤ 24) (E1 : ∀ k (hk : k < L.length), okF (L[k]'hk) = true) :
    Calls Tryz.prog 163 #[u, .agg #[.bool f.neg, v, d]] w fun e w' => ∃ x xs, e = .returned (.tuple #[x, .bool (fineV (mulsL f L))]) ∧ OwnV w' w.heap.size x (mulsA f L) xs ∧ Below w.heap.size w w' := by
  have H0 := Lib.hid h0
  have H1 := Lib.hid h1
  obtain ⟨a0, c0, e0, k0, rfl, rfl⟩ := fr_forms h0
  obtain ⟨a, cap, rfl, hc, hm, hr⟩ := h1
  unfold maxLen at hm
  clear hr h0
  have HMZ := Lib.hid (muls_zip f L)
  have HCB := Lib.hid (fun (W : World) (hW : Below w.heap.size w W) (vv : Value) (hv : RatsAt W vv (List.replicate L.length f)) => (impl_combMul mulX (fun f g hf hg v d v' d' w h0 h1 => impl_timesF f g hf hg v d v' d' w h0 h1) _ L vv _ W (H1.out.below hW) hv (by simp) (by omega) E1 (fun k hk => by rw [List.getElem_replicate]; exact hf)).mono (R' := fun e w' => ∃ x xs, e = .returned (.tuple #[x, .bool (fineV (mulsL f L))]) ∧ OwnV w' w.heap.size x (mulsA f L) xs ∧ Below w.heap.size w w') (fun e w' ⟨x, xs, he, ho, hb⟩ => by
    rw [HMZ.out] at he
    unfold cmbL at ho
    rw [HMZ.out] at ho
    exact ⟨x, xs, he, ho.base hW.size, hW.trans (hb.mono hW.size)⟩))
  obtain ⟨n, hnn⟩ : ∃ n, L.length = n := ⟨_, rfl⟩
  rw [hnn] at hc H1 HCB hl ⊢
  clear hnn
  obtain ⟨Z, hZ⟩ : ∃ b, b = fineV (mulsL f L) := ⟨_, rfl⟩
  rw [← hZ] at HCB ⊢
  clear hZ HMZ
  obtain ⟨nx, hnx⟩ : ∃ n, f.mag.length = n := ⟨_, rfl⟩
  obtain ⟨nd, hnd⟩ : ∃ n, f.den.length = n := ⟨_, rfl⟩
  rw [hnx, hnd] at H0 ⊢
  clear hnx hnd
  have HRP := Lib.hid (fun (W : World) (g0 : Nat) (hW : Below w.heap.size w W) (hb : W.heap[g0]? = some (.cells #[.bool f.neg, .slice a0 nx c0, .slice e0 nd k0] 34 (0, 0))) => impl_repeat f a0 c0 e0 k0 nx nd g0 n hl W (H0.out.below hW) hb)
  go_enter Tryz.func163, Tryz.ntmps163
  go_wp2_with fail
  obtain ⟨W1, hW1⟩ : ∃ x, x = (w.alloc (.cells #[.bool f.neg, .slice a0 nx c0, .slice e0 nd k0] 34)).alloc (.cells #[.bool f.neg, .slice a0 nx c0, .slice e0 nd k0] 34) := ⟨_, rfl⟩
  have B1 := (show Below w.heap.size w W1 by rw [hW1]; exact ((Below.refl _ _).alloc (Nat.le_refl _) _).alloc (by simp) _)
  have hb := (show W1.heap[w.heap.size + 1]? = some (.cells #[.bool f.neg, .slice a0 nx c0, .slice e0 nd k0] 34 (0, 0)) by
    rw [hW1]
    have h := World.alloc_heap_new (w.alloc (.cells #[.bool f.neg, .slice a0 nx c0, .slice e0 nd k0] 34)) (.cells #[.bool f.neg, .slice a0 nx c0, .slice e0 nd k0] 34)
    rw [World.size_alloc] at h
    exact h)
  rw [← hW1]
  clear hW1
  refine (HRP.out W1 _ B1 hb).mono ?_
  rintro e w2 ⟨vv, rfl, hv, b2⟩
  have HV := Lib.hid hv
  have B2 := Lib.hid (B1.trans (b2.mono B1.size))
  obtain ⟨a9, c9, rfl, _, _⟩ := ratsAt_form hv
  clear hv b2 B1 hb
  rw [List.length_replicate] at HV ⊢
  go_wp2_with fail
  refine (HCB.out w2 B2.out _ HV.out).mono ?_
  rintro e w3 ⟨x, xs, rfl, ho, hb⟩
  have HO := Lib.hid ho
  have HB := Lib.hid hb
  clear ho hb
  go_wp2_with fail
  exact bodyPost_ret (v := .tuple #[x, .bool Z]) (by simp [results, Tryz.results163, go_sem]) rfl ⟨x, xs, rfl, HO.out, HB.out⟩

/-! clearFirst -/
theorem run_copy_none (w : World) (dT sT ty : TypeId) (a : Addr) (dLen dCap : Nat) (ad : Option Addr) (c : Nat) (hu : Tryz.prog.underlying dT = some (.slice 34)) :
    (Builtin.copy_ #[dT, sT] ty #[.slice (some a) dLen dCap, .slice ad 0 c]).run Tryz.prog w = .ok (goInt 0) w := by
  obtain ⟨i0, hi, hz0, hz1, hz2⟩ := info_parts info_rat
  have h0 : Sem.run Tryz.prog (storeCells a []) w = .ok () w := by simp [storeCells]
  cases ad with
  | none =>
    simp [Builtin.copy_, run_underlying hu, Builtin.lenOf, Builtin.firstCells, sizeOf, typeInfo, hi, hz1, h0]
  | some ad =>
    have h1 := run_loadCells_list (P := Tryz.prog) w ad [] (by simp)
    simp only [List.length_nil] at h1
    simp [Builtin.copy_, run_underlying hu, Builtin.lenOf, Builtin.firstCells, sizeOf, typeInfo, hi, hz1, h1, h0]
theorem copy0_list {ops : Array Oper} {rest : List Oper} {o : Oper} {a : Act} {Q : Exit → Act → World → Prop} {w : World} (hgd : o.guard = none) (d s : Operand) (dT sT : TypeId)
    (hu : Tryz.prog.underlying dT = some (.slice 34))
    (ho : o.op = .call { callee := .builtin .copy, args := #[d, s], argTypes := #[dT, sT] }) (ad : Addr) (dLen dCap : Nat) (sd : Option Addr) (sCap : Nat)
    (hd : a.eval d = .slice (some ad) dLen dCap) (hs : a.eval s = .slice sd 0 sCap)
    (h : wpList Tryz.prog ops Q rest (a.put o.dst (goInt 0)) w) : wpList Tryz.prog ops Q (o :: rest) a w := by
  refine wpList_plain hgd fun K hK => ?_
  have hrun := run_copy_none w dT sT o.type ad dLen dCap sd sCap hu
  unfold Oper.wp
  simp [execOp, ho, resolve, invoke, builtin, hd, hs, hrun, Result.andThen]
  have h2 := h
  exact hK _ _ h2
/-- a part of a vector in its block: m elements from o on -/
def partV (q o m c : Nat) : Value := .slice (some ⟨q, o * 3, none⟩) m c
def partL (L : List Fr) (o m : Nat) : List Fr := (L.drop o).take m
theorem partL_len {L : List Fr} {o m : Nat} (h : o + m ≤ L.length) : (partL L o m).length = m := by simp [partL]; omega
theorem partL_get {L : List Fr} {o m k : Nat} (h : o + m ≤ L.length) (hk : k < (partL L o m).length) : (partL L o m)[k]'hk = L[o + k]'(by rw [partL_len h] at hk; omega) := by simp [partL]
theorem rats_partV {w : World} {q n cap o m c : Nat} {L : List Fr} (h : RatsAt w (.slice (some ⟨q, 0, none⟩) n cap) L) (ho : o + m ≤ L.length) (hmc : m ≤ c) (hc : c ≤ maxLen) : RatsAt w (partV q o m c) (partL L o m) := by
  obtain ⟨a0, c0, e, h1, h2, h3⟩ := h
  injection e with e1 e2 e3
  subst e1 e2 e3
  refine ⟨_, c, by unfold partV; rw [partL_len ho], by rw [partL_len ho]; exact hmc, hc, fun k hk => ?_⟩
  have hk' : k < m := by rw [partL_len ho] at hk; exact hk
  obtain ⟨b, o9, x, y, e, k0, k1, k2, hr⟩ := h3 (o + k) (by omega)
  injection e with e
  injection e with e1 e2 _
  subst e1 e2
  rw [partL_get ho hk]
  refine ⟨q, o * 3, x, y, rfl, ?_, ?_, ?_, hr⟩
  · rw [show o * 3 + k * 3 = 0 + (o + k) * 3 by omega]; exact k0
  · rw [show o * 3 + k * 3 + 1 = 0 + (o + k) * 3 + 1 by omega]; exact k1
  · rw [show o * 3 + k * 3 + 2 = 0 + (o + k) * 3 + 2 by omega]; exact k2
/-- what clearFirst leaves of a row: Lr, with the used row Lu -/
def clrL (Lr Lu : List Fr) : List Fr := zipF subX Lr (mulsL (Lr[0]?.getD Fr.zero) Lu)
def clrB (Lr Lu : List Fr) : Bool := nilF (Lr[0]?.getD Fr.zero) || (fineV (mulsL (Lr[0]?.getD Fr.zero) Lu) && fineV (clrL Lr Lu))
def clrR (Lr Lu : List Fr) : List Fr := if nilF (Lr[0]?.getD Fr.zero) then Lr else clrL Lr Lu
theorem spl_self {L : List Fr} {o m : Nat} (h : o + m ≤ L.length) : spl L o (partL L o m) = L := by
  apply List.ext_getElem (by rw [spl_len (by rw [partL_len h]; exact h)])
  intro j h1 h2
  rw [spl_get (by rw [partL_len h]; exact h)]
  split
  · next h3 => rw [partL_get h]; congr 1; omega
  · rfl
theorem rat0 {w : World} {q o m c : Nat} {L : List Fr} (h : RatsAt w (partV q o m c) L) (h0 : 0 < m) (hl : L.length = m) : ∃ a1 r1 a2 r2, (w.cell? ⟨q, o * 3, none⟩ = some (.bool (L[0]?.getD Fr.zero).neg) ∧ w.cell? ⟨q, o * 3 + 1, none⟩ = some (.slice a1 (L[0]?.getD Fr.zero).mag.length r1) ∧ w.cell? ⟨q, o * 3 + 2, none⟩ = some (.slice a2 (L[0]?.getD Fr.zero).den.length r2)) ∧
    RowR w (.slice a1 (L[0]?.getD Fr.zero).mag.length r1) (L[0]?.getD Fr.zero).mag (.slice a2 (L[0]?.getD Fr.zero).den.length r2) (L[0]?.getD Fr.zero).den := by
  obtain ⟨a0, c0, e, h1, h2, h3⟩ := h
  injection e with e1 e2 e3
  subst e1 e3
  obtain ⟨b, o9, x, y, e, k0, k1, k2, hr⟩ := h3 0 (by omega)
  injection e with e
  injection e with e1 e2 _
  subst e1 e2
  have e0 : L[0]?.getD Fr.zero = L[0]'(by omega) := by rw [List.getElem?_eq_getElem (by omega)]; rfl
  rw [e0]
  obtain ⟨a1, r1, a2, r2, rfl, rfl, _, _⟩ := rowR_len hr
  exact ⟨a1, r1, a2, r2, ⟨k0, k1, k2⟩, hr⟩
/-- the source of a copy: all elements of a vector of the call's own -/
theorem OwnV.src {w : World} {B g n c : Nat} {L : List Fr} {xs : List (Value × Value)} (h : OwnV w B (.slice (some ⟨g, 0, none⟩) n c) L xs) : ∀ j v, (flat L xs)[j]? = some v → w.cell? ((⟨g, 0, none⟩ : Addr).add j) = some v := by
  intro j v hj
  have e9 : (⟨g, 0, none⟩ : Addr).add j = ⟨g, j, none⟩ := by simp [Addr.add]; exact fun h => h.symm
  have e := h.count
  subst e
  have hl := flat_len L xs h.len
  obtain ⟨hlt, _⟩ := List.getElem?_eq_some_iff.1 hj
  rw [e9]
  exact (h.row.cellAt j (by omega)).trans hj
theorem xs_lt {w : World} {B : Nat} {v : Value} {L : List Fr} {xs : List (Value × Value)} (h : OwnV w B v L xs) : ∀ p ∈ xs, ∀ r, (p.1.ownBlock = some r ∨ p.2.ownBlock = some r) → B ≤ r ∧ r < w.heap.size := fun p hp r e => h.lt r (.inr ⟨p, hp, e⟩)

set_option maxRecDepth 100000 in
set_option maxHeartbeats 4000000 in
theorem impl_clearFirst (q N cap B o1 o2 m c1 c2 : Nat) (L : List Fr) (xs : List (Value × Value)) (w : World) (h : OwnV w B (.slice (some ⟨q, 0, none⟩) N cap) L xs) (hm : 0 < m) (hm2 : m ≤ 24) (h1 : o1 + m ≤ L.length) (h2 : o2 + m ≤ L.length) (hc1 : m ≤ c1 ∧ c1 ≤ 24) (hc2 : m ≤ c2 ∧ c2 ≤ 24)
    (hk1 : ∀ k (hk : k < (partL L o1 m).length), okF ((partL L o1 m)[k]'hk) = true) (hk2 : ∀ k (hk : k < (partL L o2 m).length), okF ((partL L o2 m)[k]'hk) = true) (hB : B ≤ w.heap.size) :
    Calls Tryz.prog 165 #[partV q o1 m c1, partV q o2 m c2] w fun e w' => e = .returned (.bool (clrB (partL L o1 m) (partL L o2 m))) ∧
      (clrB (partL L o1 m) (partL L o2 m) = true → ∃ ys, OwnV w' B (.slice (some ⟨q, 0, none⟩) N cap) (spl L o1 (clrR (partL L o1 m) (partL L o2 m))) ys ∧ Kept (fun j => j = q) w w' ∧ (∀ j, OnV (.slice (some ⟨q, 0, none⟩) N cap) ys j → OnV (.slice (some ⟨q, 0, none⟩) N cap) xs j ∨ w.heap.size ≤ j)) ∧ Kept (fun j => j = q) w w' ∧ Below B w w' := by
  have hl1 := partL_len h1
  have hl2 := partL_len h2
  have P1 := rats_partV (c := c1) h.rats h1 hc1.1 (by unfold maxLen; omega)
  have P2 := Lib.hid (rats_partV (c := c2) h.rats h2 hc2.1 (by unfold maxLen; omega))
  have HSP := Lib.hid (spl_self h1)
  obtain ⟨a1, r1, a2, r2, hcc, hrr⟩ := rat0 P1 hm hl1
  have HP1 := Lib.hid P1
  have HX := Lib.hid h
  have HQ := Lib.hid (h.lt q (.inl rfl))
  have HO1 := Lib.hid h1
  have E1 := Lib.hid hk1
  have E2 := Lib.hid hk2
  have HC := Lib.hid hcc
  have HR := Lib.hid hrr
  have EX := Lib.hid (show okF ((partL L o1 m)[0]?.getD Fr.zero) = true by rw [List.getElem?_eq_getElem (by omega)]; exact hk1 0 (by omega))
  obtain ⟨Lr, hLr⟩ : ∃ x, x = partL L o1 m := ⟨_, rfl⟩
  obtain ⟨Lu, hLu⟩ : ∃ x, x = partL L o2 m := ⟨_, rfl⟩
  have hcb : clrB (partL L o1 m) (partL L o2 m) = clrB Lr Lu := by rw [hLr, hLu]
  have hcr : clrR (partL L o1 m) (partL L o2 m) = clrR Lr Lu := by rw [hLr, hLu]
  rw [hcb, hcr]
  rw [← hLr] at HC HR EX HSP HP1 E1 hl1
  rw [← hLu] at P2 E2 hl2
  clear hcb hcr hLr hLu P1 hcc hrr h hk1 hk2 h1 h2
  obtain ⟨x, hx⟩ : ∃ x, x = Lr[0]?.getD Fr.zero := ⟨_, rfl⟩
  rw [← hx] at HC HR EX
  have HCB := Lib.hid (show clrB Lr Lu = (nilF x || (fineV (mulsL x Lu) && fineV (zipF subX Lr (mulsL x Lu)))) by unfold clrB clrL; rw [← hx])
  have HCR := Lib.hid (show clrR Lr Lu = (if nilF x then Lr else zipF subX Lr (mulsL x Lu)) by unfold clrR clrL; rw [← hx])
  clear hx
  obtain ⟨ZB, hZB⟩ : ∃ z, z = clrB Lr Lu := ⟨_, rfl⟩
  obtain ⟨ZR, hZR⟩ : ∃ z, z = clrR Lr Lu := ⟨_, rfl⟩
  rw [← hZB, ← hZR]
  have HZB := Lib.hid (hZB.trans HCB.out)
  have HZR := Lib.hid (hZR.trans HCR.out)
  clear hZB hZR HCB HCR
  have c0 := HC.out.1
  have c1' := HC.out.2.1
  have c2' := HC.out.2.2
  unfold partV
  have x1 : (0 : Int) < (m : Int) := by omega
  cases q0 : nilF x with
  | true =>
    obtain rfl : ZB = true := HZB.out.trans (by rw [q0]; rfl)
    obtain rfl : ZR = Lr := HZR.out.trans (by rw [q0]; rfl)
    go_enter Tryz.func165, Tryz.ntmps165
    go_wp2_with fail
    refine (impl_isZero x _ _ _ HR.out).mono ?_
    rw [q0]
    rintro e w1 ⟨rfl, b1⟩
    have B1 := Lib.hid b1
    clear b1 c0 c1' c2'
    go_wp2_with fail
    go_ret
    exact ⟨rfl, fun _ => ⟨xs, by rw [HSP.out]; exact HX.out.below B1.out, Kept.of_below B1.out, fun j hj => .inl hj⟩, Kept.of_below B1.out, B1.out.mono hB⟩
  | false =>
  have HKM := Lib.hid (fun (W : World) (hW : Below w.heap.size w W) => (impl_multiplesOf x EX.out _ _ _ Lu W (HR.out.below hW) (P2.out.below hW) (by rw [hl2]; exact hm2) E2.out).mono (R' := fun e w' => ∃ v xs, e = .returned (.tuple #[v, .bool (fineV (mulsL x Lu))]) ∧ OwnV w' w.heap.size v (mulsA x Lu) xs ∧ Below w.heap.size w w') (fun e w' ⟨v, xs, he, ho, hb⟩ => ⟨v, xs, he, ho.base hW.size, hW.trans (hb.mono hW.size)⟩))
  unfold partV at HKM
  cases q1 : fineV (mulsL x Lu) with
  | false =>
    obtain rfl : ZB = false := HZB.out.trans (by rw [q0, q1]; rfl)
    rw [q1] at HKM
    go_enter Tryz.func165, Tryz.ntmps165
    go_wp2_with fail
    refine (impl_isZero x _ _ _ HR.out).mono ?_
    rw [q0]
    rintro e w1 ⟨rfl, b1⟩
    have B1 := Lib.hid b1
    have d0 := (b1.cell (p := ⟨q, o1 * 3, none⟩) (World.block_lt_of_cell? w _ c0)).trans c0
    have d1 := (b1.cell (p := ⟨q, o1 * 3 + 1, none⟩) (World.block_lt_of_cell? w _ c1')).trans c1'
    have d2 := (b1.cell (p := ⟨q, o1 * 3 + 2, none⟩) (World.block_lt_of_cell? w _ c2')).trans c2'
    clear b1 c0 c1' c2'
    go_wp2_with fail
    refine (HKM.out _ B1.out).mono ?_
    rintro e w2 ⟨v2, xs2, rfl, o2, b2⟩
    have B2 := Lib.hid b2
    clear o2 b2 d0 d1 d2
    go_wp2_with fail
    go_ret
    exact ⟨rfl, (fun h => by cases h), Kept.of_below B2.out, B2.out.mono hB⟩
  | true =>
  have HMA := Lib.hid (mulsA_yes q1)
  rw [q1] at HKM
  have HML := Lib.hid (muls_len x Lu)
  have HOK := Lib.hid (show ∀ k (hk : k < (mulsL x Lu).length), okF ((mulsL x Lu)[k]'hk) = true from fun k hk => by
    have h9 : badF ((mulsL x Lu)[k]'hk) = false := by
      have h8 := List.all_eq_true.1 q1 _ (List.getElem_mem hk)
      simpa using h8
    refine ok_of ?_ h9
    have hk' : k < Lu.length := by rw [← HML.out]; exact hk
    have e9 : (mulsL x Lu)[k]'hk = mulX (Lu[k]'hk') x := by simp [mulsL]
    rw [e9]
    exact ok_mul (E2.out k hk') EX.out)
  have HKC := Lib.hid (fun (W : World) (hW : Below w.heap.size w W) (vv : Value) (hv : RatsAt W vv (mulsL x Lu)) => (impl_combSub subX (fun f g hf hg v d v' d' w h0 h1 => impl_diffF f g hf hg v d v' d' w h0 h1) _ Lr vv _ W (HP1.out.below hW) hv (by rw [HML.out, hl1, hl2]) (by omega) E1.out HOK.out).mono (R' := fun e w' => ∃ u ys, e = .returned (.tuple #[u, .bool (fineV (zipF subX Lr (mulsL x Lu)))]) ∧ OwnV w' W.heap.size u (cmbL subX Lr (mulsL x Lu)) ys ∧ Below W.heap.size W w' ∧ Below w.heap.size w w') (fun e w' ⟨u, ys, he, ho, hb⟩ => ⟨u, ys, he, ho, hb, hW.trans (hb.mono hW.size)⟩))
  unfold partV at HKC
  cases q2 : fineV (zipF subX Lr (mulsL x Lu)) with
  | false =>
    obtain rfl : ZB = false := HZB.out.trans (by rw [q0, q1, q2]; rfl)
    have HCL := Lib.hid (show cmbL subX Lr (mulsL x Lu) = [] by unfold cmbL; rw [q2]; rfl)
    rw [q2] at HKC
    go_enter Tryz.func165, Tryz.ntmps165
    go_wp2_with fail
    refine (impl_isZero x _ _ _ HR.out).mono ?_
    rw [q0]
    rintro e w1 ⟨rfl, b1⟩
    have B1 := Lib.hid b1
    have d0 := (b1.cell (p := ⟨q, o1 * 3, none⟩) (World.block_lt_of_cell? w _ c0)).trans c0
    have d1 := (b1.cell (p := ⟨q, o1 * 3 + 1, none⟩) (World.block_lt_of_cell? w _ c1')).trans c1'
    have d2 := (b1.cell (p := ⟨q, o1 * 3 + 2, none⟩) (World.block_lt_of_cell? w _ c2')).trans c2'
    clear b1 c0 c1' c2'
    go_wp2_with fail
    refine (HKM.out _ B1.out).mono ?_
    rintro e w2 ⟨v2, xs2, rfl, o2, b2⟩
    rw [HMA.out] at o2
    have B2 := Lib.hid b2
    have O2 := Lib.hid o2
    clear o2 b2 d0 d1 d2
    go_wp2_with fail
    refine (HKC.out _ B2.out _ O2.out.rats).mono ?_
    rintro e w3 ⟨v3, xs3, rfl, o3, b3, b3'⟩
    rw [HCL.out] at o3
    obtain ⟨a9, c9, rfl⟩ := o3.slice
    have B3_ := Lib.hid b3'
    clear o3 b3 b3' O2 B2
    go_wp2_with (refine copy0_list rfl (.tmp 28) (.tmp 29) 23 23 Tryz.underlying23 rfl _ _ _ _ _ rfl rfl ?_)
    go_ret
    exact ⟨rfl, (fun h => by cases h), Kept.of_below B3_.out, B3_.out.mono hB⟩
  | true =>
    obtain rfl : ZB = true := HZB.out.trans (by rw [q0, q1, q2]; rfl)
    obtain ⟨Dl, hDl⟩ : ∃ z, z = zipF subX Lr (mulsL x Lu) := ⟨_, rfl⟩
    have HCL := Lib.hid (show cmbL subX Lr (mulsL x Lu) = Dl by unfold cmbL; rw [q2, hDl]; rfl)
    have HZD := Lib.hid (show ZR = Dl from HZR.out.trans (by rw [q0, hDl]; rfl))
    have hDL : Dl.length = m := by rw [hDl]; unfold zipF; simp [muls_len]; omega
    rw [q2] at HKC
    clear hDl
    go_enter Tryz.func165, Tryz.ntmps165
    go_wp2_with fail
    refine (impl_isZero x _ _ _ HR.out).mono ?_
    rw [q0]
    rintro e w1 ⟨rfl, b1⟩
    have B1 := Lib.hid b1
    have d0 := (b1.cell (p := ⟨q, o1 * 3, none⟩) (World.block_lt_of_cell? w _ c0)).trans c0
    have d1 := (b1.cell (p := ⟨q, o1 * 3 + 1, none⟩) (World.block_lt_of_cell? w _ c1')).trans c1'
    have d2 := (b1.cell (p := ⟨q, o1 * 3 + 2, none⟩) (World.block_lt_of_cell? w _ c2')).trans c2'
    clear b1 c0 c1' c2'
    go_wp2_with fail
    refine (HKM.out _ B1.out).mono ?_
    rintro e w2 ⟨v2, xs2, rfl, o2, b2⟩
    rw [HMA.out] at o2
    have B2 := Lib.hid b2
    have O2 := Lib.hid o2
    clear o2 b2 d0 d1 d2
    go_wp2_with fail
    refine (HKC.out _ B2.out _ O2.out.rats).mono ?_
    rintro e w3 ⟨v3, xs3, rfl, o3, b3, b3'⟩
    rw [HCL.out] at o3
    have B3_ := Lib.hid b3'
    have hw2 := B2.out.size
    obtain ⟨g3, c3, rfl, hg3, hg3'⟩ := o3.some_at (by omega)
    rw [hDL] at o3
    have X3 := HX.out.below b3'
    obtain ⟨cur, hcur, hcl, hcn⟩ := X3.block
    have hfl := flat_len Dl xs3 o3.len
    have hNL : L.length = N := X3.count
    have hlx := X3.len
    have SP := X3.splice (M := Dl) (ys := xs3) (o := o1) hcur o3.len (by have := HO1.out; omega) (fun i h1 h2 => (o3.each i h1 h2).base (by omega)) o3.apart (fun p hp q' hq r r' e1 e2 => by have h3 := (xs_lt HX.out p hp r e1).2; have h4 := (xs_lt o3 q' hq r' e2).1; omega) (fun q' hq r e2 => by have h4 := (xs_lt o3 q' hq r e2).1; have := HQ.out.2; omega)
    have HSP2 := Lib.hid SP
    have O3 := Lib.hid o3
    have HCU := Lib.hid (And.intro hcur hcl)
    have ho1 := HO1.out
    clear b3 b3' O2 B2 SP X3 hcur
    rw [hDL]
    go_wp2_with (refine copy3_list rfl (.tmp 28) (.tmp 29) 23 23 Tryz.underlying23 rfl q (o1 * 3) m c1 ⟨g3, 0, none⟩ m c3 m rfl rfl cur 34 (flat Dl xs3) HCU.out.1 (Nat.min_self m) (by rw [hfl, hDL]) O3.out.src (by rw [hfl, hDL, hcl]; omega) O3.out.one ?_; intro w4 hg4 hw4; have HW4 := Lib.hid hw4; clear hw4)
    go_ret
    obtain ⟨V4, K4⟩ := HSP2.out
    rw [← HW4.out] at V4 K4
    refine ⟨rfl, fun _ => ⟨_, by rw [HZD.out]; exact V4, (Kept.of_below B3_.out).trans K4, onV_spl (n := w.heap.size) (fun q' hq r e2 => by have h4 := (xs_lt O3.out q' hq r e2).1; omega)⟩, (Kept.of_below B3_.out).trans K4, ?_⟩
    exact below_kept (B3_.out.mono hB) K4 (Nat.le_trans hB B3_.out.size) (fun j hj => by rw [hj]; exact HQ.out.1)
end Go.Proofs.YtlepgkkpopjgoaaGreat
