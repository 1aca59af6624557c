/- ElMul ElPro ElStep ElTurn ElFin ElElim ElUse ElRun ElDet. -/
import Derived.Test.YtlepgkkpopjgoaaGreatYElSpec
import Derived.Test.YtlepgkkpopjgoaaGreatYElDiv
import Derived.Test.YtlepgkkpopjgoaaGreatYVecRep
import Derived.Test.YtlepgkkpopjgoaaGreatYMatIget
import Derived.Stop.RegionWithIn
import Derived.Deep.LoopGhost
import Derived.Deep.RegionHeld3
import Derived.Test.YtlepgkkpopjgoaaGreatYVecOk
import Derived.Test.YtlepgkkpopjgoaaGreatYRatOk
import Derived.Deep.RegionWith
namespace Go.Proofs.YtlepgkkpopjgoaaGreat
open Go.RowKit Go.WideShapes Go.ChangeShapes
set_option linter.unusedVariables false
set_option linter.unusedSimpArgs false
def mulsL (f : Fr) (L : List Fr) : List Fr := L.map (fun y => mulX y f)
theorem muls_zip (f : Fr) (L : List Fr) : zipF mulX L (List.replicate L.length f) = mulsL f L := by
 unfold zipF mulsL
 induction L with
 | nil => rfl
 | cons x L ih => simp [List.replicate_succ, ih]
theorem muls_len (f : Fr) (L : List Fr) : (mulsL f L).length = L.length := by simp [mulsL]
def mulsA (f : Fr) (L : List Fr) : List Fr := if fineV (mulsL f L) then mulsL f L else []
theorem mulsA_yes {f : Fr} {L : List Fr} (h : fineV (mulsL f L) = true) : mulsA f L = mulsL f L := by unfold mulsA; rw [h]; rfl
set_option maxRecDepth 100000 in
set_option maxHeartbeats 1000000 in
theorem impl_multiplesOf (f : Fr) (hf : okF f = true) (v d u : Value) (L : List Fr) (w : World) (h0 : RowR w v f.mag d f.den) (h1 : RatsAt w u L) (hl : L.length ≤ 24) (E1 : ∀ k (hk : k < L.length), okF (L[k]'hk) = true) :
  Calls Tryz.prog 163 #[u, .agg #[.bool f.neg, v, d]] w fun e w' => ∃ x xs, e = .returned (.tuple #[x, .bool (fineV (mulsL f L))]) ∧ OwnV w' w.heap.size x (mulsA f L) xs ∧ Below w.heap.size w w' := by
 have H0 := Lib.hid h0
 have H1 := Lib.hid h1
 obtain ⟨a0, c0, e0, k0, rfl, rfl⟩ := fr_forms h0
 obtain ⟨a, cap, rfl, hc, hm, hr⟩ := h1
 unfold maxLen at hm
 clear hr h0
 have HMZ := Lib.hid (muls_zip f L)
 have HCB := Lib.hid (fun (W : World) (hW : Below w.heap.size w W) (vv : Value) (hv : RatsAt W vv (List.replicate L.length f)) => (impl_combMul mulX (fun f g hf hg v d v' d' w h0 h1 => impl_timesF f g hf hg v d v' d' w h0 h1) _ L vv _ W (H1.out.below hW) hv (by simp) (by omega) E1 (fun k hk => by rw [List.getElem_replicate]; exact hf)).mono (R' := fun e w' => ∃ x xs, e = .returned (.tuple #[x, .bool (fineV (mulsL f L))]) ∧ OwnV w' w.heap.size x (mulsA f L) xs ∧ Below w.heap.size w w') (fun e w' ⟨x, xs, he, ho, hb⟩ => by
  rw [HMZ.out] at he
  unfold cmbL at ho
  rw [HMZ.out] at ho
  exact ⟨x, xs, he, ho.base hW.size, hW.trans (hb.mono hW.size)⟩))
 obtain ⟨n, hnn⟩ : ∃ n, L.length = n := ⟨_, rfl⟩
 rw [hnn] at hc H1 HCB hl ⊢
 clear hnn
 obtain ⟨Z, hZ⟩ : ∃ b, b = fineV (mulsL f L) := ⟨_, rfl⟩
 rw [← hZ] at HCB ⊢
 clear hZ HMZ
 obtain ⟨nx, hnx⟩ : ∃ n, f.mag.length = n := ⟨_, rfl⟩
 obtain ⟨nd, hnd⟩ : ∃ n, f.den.length = n := ⟨_, rfl⟩
 rw [hnx, hnd] at H0 ⊢
 clear hnx hnd
 have HRP := Lib.hid (fun (W : World) (g0 : Nat) (hW : Below w.heap.size w W) (hb : W.heap[g0]? = some (.cells #[.bool f.neg, .slice a0 nx c0, .slice e0 nd k0] 34 (0, 0))) => impl_repeat f a0 c0 e0 k0 nx nd g0 n hl W (H0.out.below hW) hb)
 go_enter Tryz.func163, Tryz.ntmps163
 go_wp2_with fail
 obtain ⟨W1, hW1⟩ : ∃ x, x = (w.alloc (.cells #[.bool f.neg, .slice a0 nx c0, .slice e0 nd k0] 34)).alloc (.cells #[.bool f.neg, .slice a0 nx c0, .slice e0 nd k0] 34) := ⟨_, rfl⟩
 have B1 := (show Below w.heap.size w W1 by rw [hW1]; exact ((Below.refl _ _).alloc (Nat.le_refl _) _).alloc (by simp) _)
 have hb := (show W1.heap[w.heap.size + 1]? = some (.cells #[.bool f.neg, .slice a0 nx c0, .slice e0 nd k0] 34 (0, 0)) by
  rw [hW1]
  have h := World.alloc_heap_new (w.alloc (.cells #[.bool f.neg, .slice a0 nx c0, .slice e0 nd k0] 34)) (.cells #[.bool f.neg, .slice a0 nx c0, .slice e0 nd k0] 34)
  rw [World.size_alloc] at h
  exact h)
 rw [← hW1]
 clear hW1
 refine (HRP.out W1 _ B1 hb).mono ?_
 rintro e w2 ⟨vv, rfl, hv, b2⟩
 have HV := Lib.hid hv
 have B2 := Lib.hid (B1.trans (b2.mono B1.size))
 obtain ⟨a9, c9, rfl, _, _⟩ := ratsAt_form hv
 clear hv b2 B1 hb
 rw [List.length_replicate] at HV ⊢
 go_wp2_with fail
 refine (HCB.out w2 B2.out _ HV.out).mono ?_
 rintro e w3 ⟨x, xs, rfl, ho, hb⟩
 have HO := Lib.hid ho
 have HB := Lib.hid hb
 clear ho hb
 go_wp2_with fail
 exact bodyPost_ret (v := .tuple #[x, .bool Z]) (by simp [results, Tryz.results163, go_sem]) rfl ⟨x, xs, rfl, HO.out, HB.out⟩
theorem run_copy_none (w : World) (dT sT ty : TypeId) (a : Addr) (dLen dCap : Nat) (ad : Option Addr) (c : Nat) (hu : Tryz.prog.underlying dT = some (.slice 34)) :
  (Builtin.copy_ #[dT, sT] ty #[.slice (some a) dLen dCap, .slice ad 0 c]).run Tryz.prog w = .ok (goInt 0) w := by
 obtain ⟨i0, hi, hz0, hz1, hz2⟩ := info_parts info_rat
 have h0 : Sem.run Tryz.prog (storeCells a []) w = .ok () w := by simp [storeCells]
 cases ad with
 | none =>
  simp [Builtin.copy_, run_underlying hu, Builtin.lenOf, Builtin.firstCells, sizeOf, typeInfo, hi, hz1, h0]
 | some ad =>
  have h1 := run_loadCells_list (P := Tryz.prog) w ad [] (by simp)
  simp only [List.length_nil] at h1
  simp [Builtin.copy_, run_underlying hu, Builtin.lenOf, Builtin.firstCells, sizeOf, typeInfo, hi, hz1, h1, h0]
theorem copy0_list {ops : Array Oper} {rest : List Oper} {o : Oper} {a : Act} {Q : Exit → Act → World → Prop} {w : World} (hgd : o.guard = none) (d s : Operand) (dT sT : TypeId)
  (hu : Tryz.prog.underlying dT = some (.slice 34))
  (ho : o.op = .call { callee := .builtin .copy, args := #[d, s], argTypes := #[dT, sT] }) (ad : Addr) (dLen dCap : Nat) (sd : Option Addr) (sCap : Nat)
  (hd : a.eval d = .slice (some ad) dLen dCap) (hs : a.eval s = .slice sd 0 sCap)
  (h : wpList Tryz.prog ops Q rest (a.put o.dst (goInt 0)) w) : wpList Tryz.prog ops Q (o :: rest) a w := by
 refine wpList_plain hgd fun K hK => ?_
 have hrun := run_copy_none w dT sT o.type ad dLen dCap sd sCap hu
 unfold Oper.wp
 simp [execOp, ho, resolve, invoke, builtin, hd, hs, hrun, Result.andThen]
 have h2 := h
 exact hK _ _ h2
def partV (q o m c : Nat) : Value := .slice (some ⟨q, o * 3, none⟩) m c
def partL (L : List Fr) (o m : Nat) : List Fr := (L.drop o).take m
theorem partL_len {L : List Fr} {o m : Nat} (h : o + m ≤ L.length) : (partL L o m).length = m := by simp [partL]; omega
theorem partL_get {L : List Fr} {o m k : Nat} (h : o + m ≤ L.length) (hk : k < (partL L o m).length) : (partL L o m)[k]'hk = L[o + k]'(by rw [partL_len h] at hk; omega) := by simp [partL]
theorem rats_partV {w : World} {q n cap o m c : Nat} {L : List Fr} (h : RatsAt w (.slice (some ⟨q, 0, none⟩) n cap) L) (ho : o + m ≤ L.length) (hmc : m ≤ c) (hc : c ≤ maxLen) : RatsAt w (partV q o m c) (partL L o m) := by
 obtain ⟨a0, c0, e, h1, h2, h3⟩ := h
 injection e with e1 e2 e3
 subst e1 e2 e3
 refine ⟨_, c, by unfold partV; rw [partL_len ho], by rw [partL_len ho]; exact hmc, hc, fun k hk => ?_⟩
 have hk' : k < m := by rw [partL_len ho] at hk; exact hk
 obtain ⟨b, o9, x, y, e, k0, k1, k2, hr⟩ := h3 (o + k) (by omega)
 injection e with e
 injection e with e1 e2 _
 subst e1 e2
 rw [partL_get ho hk]
 refine ⟨q, o * 3, x, y, rfl, ?_, ?_, ?_, hr⟩
 ·rw [show o * 3 + k * 3 = 0 + (o + k) * 3 by omega]; exact k0
 ·rw [show o * 3 + k * 3 + 1 = 0 + (o + k) * 3 + 1 by omega]; exact k1
 ·rw [show o * 3 + k * 3 + 2 = 0 + (o + k) * 3 + 2 by omega]; exact k2
def clrL (Lr Lu : List Fr) : List Fr := zipF subX Lr (mulsL (Lr[0]?.getD Fr.zero) Lu)
def clrB (Lr Lu : List Fr) : Bool := nilF (Lr[0]?.getD Fr.zero) || (fineV (mulsL (Lr[0]?.getD Fr.zero) Lu) && fineV (clrL Lr Lu))
def clrR (Lr Lu : List Fr) : List Fr := if nilF (Lr[0]?.getD Fr.zero) then Lr else clrL Lr Lu
theorem spl_self {L : List Fr} {o m : Nat} (h : o + m ≤ L.length) : spl L o (partL L o m) = L := by
 apply List.ext_getElem (by rw [spl_len (by rw [partL_len h]; exact h)])
 intro j h1 h2
 rw [spl_get (by rw [partL_len h]; exact h)]
 split
 ·next h3 => rw [partL_get h]; congr 1; omega
 ·rfl
theorem rat0 {w : World} {q o m c : Nat} {L : List Fr} (h : RatsAt w (partV q o m c) L) (h0 : 0 < m) (hl : L.length = m) : ∃ a1 r1 a2 r2, (w.cell? ⟨q, o * 3, none⟩ = some (.bool (L[0]?.getD Fr.zero).neg) ∧ w.cell? ⟨q, o * 3 + 1, none⟩ = some (.slice a1 (L[0]?.getD Fr.zero).mag.length r1) ∧ w.cell? ⟨q, o * 3 + 2, none⟩ = some (.slice a2 (L[0]?.getD Fr.zero).den.length r2)) ∧
  RowR w (.slice a1 (L[0]?.getD Fr.zero).mag.length r1) (L[0]?.getD Fr.zero).mag (.slice a2 (L[0]?.getD Fr.zero).den.length r2) (L[0]?.getD Fr.zero).den := by
 obtain ⟨a0, c0, e, h1, h2, h3⟩ := h
 injection e with e1 e2 e3
 subst e1 e3
 obtain ⟨b, o9, x, y, e, k0, k1, k2, hr⟩ := h3 0 (by omega)
 injection e with e
 injection e with e1 e2 _
 subst e1 e2
 have e0 : L[0]?.getD Fr.zero = L[0]'(by omega) := by rw [List.getElem?_eq_getElem (by omega)]; rfl
 rw [e0]
 obtain ⟨a1, r1, a2, r2, rfl, rfl, _, _⟩ := rowR_len hr
 exact ⟨a1, r1, a2, r2, ⟨k0, k1, k2⟩, hr⟩
theorem OwnV.src {w : World} {B g n c : Nat} {L : List Fr} {xs : List (Value × Value)} (h : OwnV w B (.slice (some ⟨g, 0, none⟩) n c) L xs) : ∀ j v, (flat L xs)[j]? = some v → w.cell? ((⟨g, 0, none⟩ : Addr).add j) = some v := by
 intro j v hj
 have e9 : (⟨g, 0, none⟩ : Addr).add j = ⟨g, j, none⟩ := by simp [Addr.add]; exact fun h => h.symm
 have e := h.count
 subst e
 have hl := flat_len L xs h.len
 obtain ⟨hlt, _⟩ := List.getElem?_eq_some_iff.1 hj
 rw [e9]
 exact (h.row.cellAt j (by omega)).trans hj
theorem xs_lt {w : World} {B : Nat} {v : Value} {L : List Fr} {xs : List (Value × Value)} (h : OwnV w B v L xs) : ∀ p ∈ xs, ∀ r, (p.1.ownBlock = some r ∨ p.2.ownBlock = some r) → B ≤ r ∧ r < w.heap.size := fun p hp r e => h.lt r (.inr ⟨p, hp, e⟩)
set_option maxRecDepth 100000 in
set_option maxHeartbeats 4000000 in
theorem impl_clearFirst (q N cap B o1 o2 m c1 c2 : Nat) (L : List Fr) (xs : List (Value × Value)) (w : World) (h : OwnV w B (.slice (some ⟨q, 0, none⟩) N cap) L xs) (hm : 0 < m) (hm2 : m ≤ 24) (h1 : o1 + m ≤ L.length) (h2 : o2 + m ≤ L.length) (hc1 : m ≤ c1 ∧ c1 ≤ 24) (hc2 : m ≤ c2 ∧ c2 ≤ 24)
  (hk1 : ∀ k (hk : k < (partL L o1 m).length), okF ((partL L o1 m)[k]'hk) = true) (hk2 : ∀ k (hk : k < (partL L o2 m).length), okF ((partL L o2 m)[k]'hk) = true) (hB : B ≤ w.heap.size) :
  Calls Tryz.prog 165 #[partV q o1 m c1, partV q o2 m c2] w fun e w' => e = .returned (.bool (clrB (partL L o1 m) (partL L o2 m))) ∧
   (clrB (partL L o1 m) (partL L o2 m) = true → ∃ ys, OwnV w' B (.slice (some ⟨q, 0, none⟩) N cap) (spl L o1 (clrR (partL L o1 m) (partL L o2 m))) ys ∧ Kept (fun j => j = q) w w' ∧ (∀ j, OnV (.slice (some ⟨q, 0, none⟩) N cap) ys j → OnV (.slice (some ⟨q, 0, none⟩) N cap) xs j ∨ w.heap.size ≤ j)) ∧ Kept (fun j => j = q) w w' ∧ Below B w w' := by
 have hl1 := partL_len h1
 have hl2 := partL_len h2
 have P1 := rats_partV (c := c1) h.rats h1 hc1.1 (by unfold maxLen; omega)
 have P2 := Lib.hid (rats_partV (c := c2) h.rats h2 hc2.1 (by unfold maxLen; omega))
 have HSP := Lib.hid (spl_self h1)
 obtain ⟨a1, r1, a2, r2, hcc, hrr⟩ := rat0 P1 hm hl1
 have HP1 := Lib.hid P1
 have HX := Lib.hid h
 have HQ := Lib.hid (h.lt q (.inl rfl))
 have HO1 := Lib.hid h1
 have E1 := Lib.hid hk1
 have E2 := Lib.hid hk2
 have HC := Lib.hid hcc
 have HR := Lib.hid hrr
 have EX := Lib.hid (show okF ((partL L o1 m)[0]?.getD Fr.zero) = true by rw [List.getElem?_eq_getElem (by omega)]; exact hk1 0 (by omega))
 obtain ⟨Lr, hLr⟩ : ∃ x, x = partL L o1 m := ⟨_, rfl⟩
 obtain ⟨Lu, hLu⟩ : ∃ x, x = partL L o2 m := ⟨_, rfl⟩
 have hcb : clrB (partL L o1 m) (partL L o2 m) = clrB Lr Lu := by rw [hLr, hLu]
 have hcr : clrR (partL L o1 m) (partL L o2 m) = clrR Lr Lu := by rw [hLr, hLu]
 rw [hcb, hcr]
 rw [← hLr] at HC HR EX HSP HP1 E1 hl1
 rw [← hLu] at P2 E2 hl2
 clear hcb hcr hLr hLu P1 hcc hrr h hk1 hk2 h1 h2
 obtain ⟨x, hx⟩ : ∃ x, x = Lr[0]?.getD Fr.zero := ⟨_, rfl⟩
 rw [← hx] at HC HR EX
 have HCB := Lib.hid (show clrB Lr Lu = (nilF x || (fineV (mulsL x Lu) && fineV (zipF subX Lr (mulsL x Lu)))) by unfold clrB clrL; rw [← hx])
 have HCR := Lib.hid (show clrR Lr Lu = (if nilF x then Lr else zipF subX Lr (mulsL x Lu)) by unfold clrR clrL; rw [← hx])
 clear hx
 obtain ⟨ZB, hZB⟩ : ∃ z, z = clrB Lr Lu := ⟨_, rfl⟩
 obtain ⟨ZR, hZR⟩ : ∃ z, z = clrR Lr Lu := ⟨_, rfl⟩
 rw [← hZB, ← hZR]
 have HZB := Lib.hid (hZB.trans HCB.out)
 have HZR := Lib.hid (hZR.trans HCR.out)
 clear hZB hZR HCB HCR
 have c0 := HC.out.1
 have c1' := HC.out.2.1
 have c2' := HC.out.2.2
 unfold partV
 have x1 : (0 : Int) < (m : Int) := by omega
 cases q0 : nilF x with
 | true =>
  obtain rfl : ZB = true := HZB.out.trans (by rw [q0]; rfl)
  obtain rfl : ZR = Lr := HZR.out.trans (by rw [q0]; rfl)
  go_enter Tryz.func165, Tryz.ntmps165
  go_wp2_with fail
  refine (impl_isZero x _ _ _ HR.out).mono ?_
  rw [q0]
  rintro e w1 ⟨rfl, b1⟩
  have B1 := Lib.hid b1
  clear b1 c0 c1' c2'
  go_wp2_with fail
  go_ret
  exact ⟨rfl, fun _ => ⟨xs, by rw [HSP.out]; exact HX.out.below B1.out, Kept.of_below B1.out, fun j hj => .inl hj⟩, Kept.of_below B1.out, B1.out.mono hB⟩
 | false =>
 have HKM := Lib.hid (fun (W : World) (hW : Below w.heap.size w W) => (impl_multiplesOf x EX.out _ _ _ Lu W (HR.out.below hW) (P2.out.below hW) (by rw [hl2]; exact hm2) E2.out).mono (R' := fun e w' => ∃ v xs, e = .returned (.tuple #[v, .bool (fineV (mulsL x Lu))]) ∧ OwnV w' w.heap.size v (mulsA x Lu) xs ∧ Below w.heap.size w w') (fun e w' ⟨v, xs, he, ho, hb⟩ => ⟨v, xs, he, ho.base hW.size, hW.trans (hb.mono hW.size)⟩))
 unfold partV at HKM
 cases q1 : fineV (mulsL x Lu) with
 | false =>
  obtain rfl : ZB = false := HZB.out.trans (by rw [q0, q1]; rfl)
  rw [q1] at HKM
  go_enter Tryz.func165, Tryz.ntmps165
  go_wp2_with fail
  refine (impl_isZero x _ _ _ HR.out).mono ?_
  rw [q0]
  rintro e w1 ⟨rfl, b1⟩
  have B1 := Lib.hid b1
  have d0 := (b1.cell (p := ⟨q, o1 * 3, none⟩) (World.block_lt_of_cell? w _ c0)).trans c0
  have d1 := (b1.cell (p := ⟨q, o1 * 3 + 1, none⟩) (World.block_lt_of_cell? w _ c1')).trans c1'
  have d2 := (b1.cell (p := ⟨q, o1 * 3 + 2, none⟩) (World.block_lt_of_cell? w _ c2')).trans c2'
  clear b1 c0 c1' c2'
  go_wp2_with fail
  refine (HKM.out _ B1.out).mono ?_
  rintro e w2 ⟨v2, xs2, rfl, o2, b2⟩
  have B2 := Lib.hid b2
  clear o2 b2 d0 d1 d2
  go_wp2_with fail
  go_ret
  exact ⟨rfl, (fun h => by cases h), Kept.of_below B2.out, B2.out.mono hB⟩
 | true =>
 have HMA := Lib.hid (mulsA_yes q1)
 rw [q1] at HKM
 have HML := Lib.hid (muls_len x Lu)
 have HOK := Lib.hid (show ∀ k (hk : k < (mulsL x Lu).length), okF ((mulsL x Lu)[k]'hk) = true from fun k hk => by
  have h9 : badF ((mulsL x Lu)[k]'hk) = false := by
   have h8 := List.all_eq_true.1 q1 _ (List.getElem_mem hk)
   simpa using h8
  refine ok_of ?_ h9
  have hk' : k < Lu.length := by rw [← HML.out]; exact hk
  have e9 : (mulsL x Lu)[k]'hk = mulX (Lu[k]'hk') x := by simp [mulsL]
  rw [e9]
  exact ok_mul (E2.out k hk') EX.out)
 have HKC := Lib.hid (fun (W : World) (hW : Below w.heap.size w W) (vv : Value) (hv : RatsAt W vv (mulsL x Lu)) => (impl_combSub subX (fun f g hf hg v d v' d' w h0 h1 => impl_diffF f g hf hg v d v' d' w h0 h1) _ Lr vv _ W (HP1.out.below hW) hv (by rw [HML.out, hl1, hl2]) (by omega) E1.out HOK.out).mono (R' := fun e w' => ∃ u ys, e = .returned (.tuple #[u, .bool (fineV (zipF subX Lr (mulsL x Lu)))]) ∧ OwnV w' W.heap.size u (cmbL subX Lr (mulsL x Lu)) ys ∧ Below W.heap.size W w' ∧ Below w.heap.size w w') (fun e w' ⟨u, ys, he, ho, hb⟩ => ⟨u, ys, he, ho, hb, hW.trans (hb.mono hW.size)⟩))
 unfold partV at HKC
 cases q2 : fineV (zipF subX Lr (mulsL x Lu)) with
 | false =>
  obtain rfl : ZB = false := HZB.out.trans (by rw [q0, q1, q2]; rfl)
  have HCL := Lib.hid (show cmbL subX Lr (mulsL x Lu) = [] by unfold cmbL; rw [q2]; rfl)
  rw [q2] at HKC
  go_enter Tryz.func165, Tryz.ntmps165
  go_wp2_with fail
  refine (impl_isZero x _ _ _ HR.out).mono ?_
  rw [q0]
  rintro e w1 ⟨rfl, b1⟩
  have B1 := Lib.hid b1
  have d0 := (b1.cell (p := ⟨q, o1 * 3, none⟩) (World.block_lt_of_cell? w _ c0)).trans c0
  have d1 := (b1.cell (p := ⟨q, o1 * 3 + 1, none⟩) (World.block_lt_of_cell? w _ c1')).trans c1'
  have d2 := (b1.cell (p := ⟨q, o1 * 3 + 2, none⟩) (World.block_lt_of_cell? w _ c2')).trans c2'
  clear b1 c0 c1' c2'
  go_wp2_with fail
  refine (HKM.out _ B1.out).mono ?_
  rintro e w2 ⟨v2, xs2, rfl, o2, b2⟩
  rw [HMA.out] at o2
  have B2 := Lib.hid b2
  have O2 := Lib.hid o2
  clear o2 b2 d0 d1 d2
  go_wp2_with fail
  refine (HKC.out _ B2.out _ O2.out.rats).mono ?_
  rintro e w3 ⟨v3, xs3, rfl, o3, b3, b3'⟩
  rw [HCL.out] at o3
  obtain ⟨a9, c9, rfl⟩ := o3.slice
  have B3_ := Lib.hid b3'
  clear o3 b3 b3' O2 B2
  go_wp2_with (refine copy0_list rfl (.tmp 28) (.tmp 29) 23 23 Tryz.underlying23 rfl _ _ _ _ _ rfl rfl ?_)
  go_ret
  exact ⟨rfl, (fun h => by cases h), Kept.of_below B3_.out, B3_.out.mono hB⟩
 | true =>
  obtain rfl : ZB = true := HZB.out.trans (by rw [q0, q1, q2]; rfl)
  obtain ⟨Dl, hDl⟩ : ∃ z, z = zipF subX Lr (mulsL x Lu) := ⟨_, rfl⟩
  have HCL := Lib.hid (show cmbL subX Lr (mulsL x Lu) = Dl by unfold cmbL; rw [q2, hDl]; rfl)
  have HZD := Lib.hid (show ZR = Dl from HZR.out.trans (by rw [q0, hDl]; rfl))
  have hDL : Dl.length = m := by rw [hDl]; unfold zipF; simp [muls_len]; omega
  rw [q2] at HKC
  clear hDl
  go_enter Tryz.func165, Tryz.ntmps165
  go_wp2_with fail
  refine (impl_isZero x _ _ _ HR.out).mono ?_
  rw [q0]
  rintro e w1 ⟨rfl, b1⟩
  have B1 := Lib.hid b1
  have d0 := (b1.cell (p := ⟨q, o1 * 3, none⟩) (World.block_lt_of_cell? w _ c0)).trans c0
  have d1 := (b1.cell (p := ⟨q, o1 * 3 + 1, none⟩) (World.block_lt_of_cell? w _ c1')).trans c1'
  have d2 := (b1.cell (p := ⟨q, o1 * 3 + 2, none⟩) (World.block_lt_of_cell? w _ c2')).trans c2'
  clear b1 c0 c1' c2'
  go_wp2_with fail
  refine (HKM.out _ B1.out).mono ?_
  rintro e w2 ⟨v2, xs2, rfl, o2, b2⟩
  rw [HMA.out] at o2
  have B2 := Lib.hid b2
  have O2 := Lib.hid o2
  clear o2 b2 d0 d1 d2
  go_wp2_with fail
  refine (HKC.out _ B2.out _ O2.out.rats).mono ?_
  rintro e w3 ⟨v3, xs3, rfl, o3, b3, b3'⟩
  rw [HCL.out] at o3
  have B3_ := Lib.hid b3'
  have hw2 := B2.out.size
  obtain ⟨g3, c3, rfl, hg3, hg3'⟩ := o3.some_at (by omega)
  rw [hDL] at o3
  have X3 := HX.out.below b3'
  obtain ⟨cur, hcur, hcl, hcn⟩ := X3.block
  have hfl := flat_len Dl xs3 o3.len
  have hNL : L.length = N := X3.count
  have hlx := X3.len
  have SP := X3.splice (M := Dl) (ys := xs3) (o := o1) hcur o3.len (by have := HO1.out; omega) (fun i h1 h2 => (o3.each i h1 h2).base (by omega)) o3.apart (fun p hp q' hq r r' e1 e2 => by have h3 := (xs_lt HX.out p hp r e1).2; have h4 := (xs_lt o3 q' hq r' e2).1; omega) (fun q' hq r e2 => by have h4 := (xs_lt o3 q' hq r e2).1; have := HQ.out.2; omega)
  have HSP2 := Lib.hid SP
  have O3 := Lib.hid o3
  have HCU := Lib.hid (And.intro hcur hcl)
  have ho1 := HO1.out
  clear b3 b3' O2 B2 SP X3 hcur
  rw [hDL]
  go_wp2_with (refine copy3_list rfl (.tmp 28) (.tmp 29) 23 23 Tryz.underlying23 rfl q (o1 * 3) m c1 ⟨g3, 0, none⟩ m c3 m rfl rfl cur 34 (flat Dl xs3) HCU.out.1 (Nat.min_self m) (by rw [hfl, hDL]) O3.out.src (by rw [hfl, hDL, hcl]; omega) O3.out.one ?_; intro w4 hg4 hw4; have HW4 := Lib.hid hw4; clear hw4)
  go_ret
  obtain ⟨V4, K4⟩ := HSP2.out
  rw [← HW4.out] at V4 K4
  refine ⟨rfl, fun _ => ⟨_, by rw [HZD.out]; exact V4, (Kept.of_below B3_.out).trans K4, onV_spl (n := w.heap.size) (fun q' hq r e2 => by have h4 := (xs_lt O3.out q' hq r e2).1; omega)⟩, (Kept.of_below B3_.out).trans K4, ?_⟩
  exact below_kept (B3_.out.mono hB) K4 (Nat.le_trans hB B3_.out.size) (fun j hj => by rw [hj]; exact HQ.out.1)
end Go.Proofs.YtlepgkkpopjgoaaGreat
namespace Go.Proofs.YtlepgkkpopjgoaaGreat
open Go.RowKit Go.WideShapes Go.ChangeShapes
set_option linter.unusedVariables false
set_option linter.unusedSimpArgs false
def B5 (w : World) (p : Nat) (t : TypeId) (x y z u v : Value) : Prop := w.heap[p]? = some (.cells #[x, y, z, u, v] t (0, 0))
section
variable {w w' : World} {p : Nat} {t : TypeId} {x y z u v : Value}
theorem B5.lt (h : B5 w p t x y z u v) : p < w.heap.size := (Array.getElem?_eq_some_iff.1 h).1
theorem B5.new (w : World) (t : TypeId) (x y z u v : Value) : B5 (w.alloc (.cells #[x, y, z, u, v] t)) w.heap.size t x y z u v := World.alloc_heap_new w _
theorem B5.below (h : B5 w p t x y z u v) (hb : Below w.heap.size w w') : B5 w' p t x y z u v := (hb.block p h.lt).trans h
theorem B5.keptK {S : Nat → Prop} (h : B5 w p t x y z u v) (hk : Kept S w w') (hn : ¬ S p) : B5 w' p t x y z u v := (hk.block p h.lt hn).trans h
theorem B5.alloc (h : B5 w p t x y z u v) (o : Obj) : B5 (w.alloc o) p t x y z u v := h.keptK (S := fun _ => False) ((Kept.refl _ w).trans (Kept.of_below ((Below.refl _ _).alloc (Nat.le_refl _) _))) (fun h => h)
theorem B5.drew (h : B5 w p t x y z u v) : B5 w.drew p t x y z u v := h
theorem B5.c0 (h : B5 w p t x y z u v) : w.cell? ⟨p, 0, none⟩ = some x := by simp [World.cell?, show w.heap[p]? = _ from h]
theorem B5.c1 (h : B5 w p t x y z u v) : w.cell? ⟨p, 1, none⟩ = some y := by simp [World.cell?, show w.heap[p]? = _ from h]
theorem B5.c2 (h : B5 w p t x y z u v) : w.cell? ⟨p, 2, none⟩ = some z := by simp [World.cell?, show w.heap[p]? = _ from h]
theorem B5.c3 (h : B5 w p t x y z u v) : w.cell? ⟨p, 3, none⟩ = some u := by simp [World.cell?, show w.heap[p]? = _ from h]
theorem B5.c4 (h : B5 w p t x y z u v) : w.cell? ⟨p, 4, none⟩ = some v := by simp [World.cell?, show w.heap[p]? = _ from h]
theorem B5.f (h : B5 w p t x y z u v) (j : Nat) : w.frozen? ⟨p, j, none⟩ = false := by simp [World.frozen?, show w.heap[p]? = _ from h]
theorem B5.set (h : B5 w p t x y z u v) (j : Nat) (a : Value) : (w.setCell ⟨p, j, none⟩ a).heap[p]? = some (.cells ((#[x, y, z, u, v] : Array Value).setIfInBounds j a) t (0, 0)) := by
 simp [World.setCell, Array.getElem?_modify, show w.heap[p]? = _ from h]
theorem B5.set3 (h : B5 w p t x y z u v) (a : Value) : B5 (w.setCell ⟨p, 3, none⟩ a) p t x y z a v := h.set 3 _
theorem B5.set4 (h : B5 w p t x y z u v) (a : Value) : B5 (w.setCell ⟨p, 4, none⟩ a) p t x y z u a := h.set 4 _
end
structure PrS (w : World) (B p : Nat) (a : Option Addr) (N cap R C : Nat) (e : El) (pv fv : Value) (xs ps : List (Value × Value)) : Prop where
 D : B5 w p 79 (.int .i64 (R : Int)) (.int .i64 (C : Int)) (.slice a N cap) pv fv
 S : ElS w B (.slice a N cap) R C e pv fv xs ps
 off : ∀ k, OnE (.slice a N cap) pv fv xs ps k → k ≠ p
 hB : B ≤ p
section
variable {w w' : World} {B p : Nat} {a : Option Addr} {N cap R C : Nat} {e : El} {pv fv : Value} {xs ps : List (Value × Value)}
theorem PrS.below (h : PrS w B p a N cap R C e pv fv xs ps) (hb : Below w.heap.size w w') : PrS w' B p a N cap R C e pv fv xs ps := ⟨h.D.below hb, h.S.below hb, h.off, h.hB⟩
theorem PrS.base {B' : Nat} (h : PrS w B p a N cap R C e pv fv xs ps) (hB : B' ≤ B) : PrS w B' p a N cap R C e pv fv xs ps := ⟨h.D, h.S.base hB, h.off, Nat.le_trans hB h.hB⟩
theorem PrS.drew (h : PrS w B p a N cap R C e pv fv xs ps) : PrS w.drew B p a N cap R C e pv fv xs ps := ⟨h.D, h.S.drew, h.off, h.hB⟩
end
theorem ElS.alloc {w : World} {B : Nat} {v : Value} {R C : Nat} {e : El} {pv fv : Value} {xs ps : List (Value × Value)} (h : ElS w B v R C e pv fv xs ps) (o : Obj) : ElS (w.alloc o) B v R C e pv fv xs ps := h.below ((Below.refl _ _).alloc (Nat.le_refl _) o)
theorem Kept.drew {S : Nat → Prop} {w w' : World} (h : Kept S w w') : Kept S w w'.drew := ⟨h.os, h.tape, h.output, h.size, h.block⟩
theorem PrS.re {w : World} {B p : Nat} {a : Option Addr} {N cap R C : Nat} {g g' : Mx} {P0 : List Nat} {F0 : List Fr} {pv fv : Value} {xs ps : List (Value × Value)} (h : PrS w B p a N cap R C ⟨g, P0, F0⟩ pv fv xs ps) (e : tabM R C g = tabM R C g') : PrS w B p a N cap R C ⟨g', P0, F0⟩ pv fv xs ps :=
 ⟨h.D, h.S.reg e, h.off, h.hB⟩
theorem PrS.cells {w w' : World} {B p : Nat} {a : Option Addr} {N cap R C : Nat} {e : El} {pv fv : Value} {xs ps : List (Value × Value)} {g' : Mx} {xs' : List (Value × Value)} {S : Nat → Prop} (h : PrS w B p a N cap R C e pv fv xs ps) (hv : OwnV w' B (.slice a N cap) (tabM R C g') xs') (hk : Kept S w w') (hS : ∀ k, S k → (Value.slice a N cap).ownBlock = some k ∨ w.heap.size ≤ k) (hx : ∀ k, OnV (.slice a N cap) xs' k → OnV (.slice a N cap) xs k ∨ w.heap.size ≤ k) :
  PrS w' B p a N cap R C ⟨g', e.piv, e.fac⟩ pv fv xs' ps := by
 have hp := h.D.lt
 refine ⟨h.D.keptK hk (fun hs => ?_), h.S.cells hv hk hS hx, fun k hk1 => ?_, h.hB⟩
 ·rcases hS p hs with h1 | h1
  ·exact h.off p (.inl (.inl h1)) rfl
  ·omega
 ·rcases hk1 with h1 | h1 | h1
  ·rcases hx k h1 with h2 | h2
   ·exact h.off k (.inl h2)
   ·omega
  ·exact h.off k (.inr (.inl h1))
  ·exact h.off k (.inr (.inr h1))
theorem ElS.setP {w : World} {B p j : Nat} {v u : Value} {R C : Nat} {e : El} {pv fv : Value} {xs ps : List (Value × Value)} (h : ElS w B v R C e pv fv xs ps) (hp : ∀ k, OnE v pv fv xs ps k → k ≠ p) : ElS (w.setCell ⟨p, j, none⟩ u) B v R C e pv fv xs ps :=
 h.kept (kept_set w p j u) (fun k hk e => hp k hk e)
set_option maxRecDepth 100000 in
theorem step_append_fac {ops : Array Oper} {o : Oper} {a : Act} {K : Act → World → Prop} {Q : Exit → Act → World → Prop} {E : Prop} {w : World} (hgd : o.guard = none) (s x : Operand)
  (ho : o.op = .call { callee := .builtin .append, args := #[s, x], argTypes := #[23, 23] })
  {B : Nat} {v : Value} {R C : Nat} {e : El} {pv fv : Value} {xs ps : List (Value × Value)} (hs : a.eval s = fv) (hE : ElS w B v R C e pv fv xs ps) (hL : e.fac.length ≤ 100000) (hB : B ≤ w.heap.size)
  (g c : Nat) (hx : a.eval x = .slice (some ⟨g, 0, none⟩) 1 c) (f : Fr) (a1 : Option Addr) (n1 r1 : Nat) (a2 : Option Addr) (n2 r2 : Nat) (hblk : w.heap[g]? = some (.cells #[.bool f.neg, .slice a1 n1 r1, .slice a2 n2 r2] 34 (0, 0)))
  (hr : RowR w (.slice a1 n1 r1) f.mag (.slice a2 n2 r2) f.den) (hl : ∀ k, ((Value.slice a1 n1 r1).ownBlock = some k ∨ (Value.slice a2 n2 r2).ownBlock = some k) → k < w.heap.size ∧ v.ownBlock ≠ some k ∧ pv.ownBlock ≠ some k ∧ fv.ownBlock ≠ some k)
  (h : ∀ fg fn fc w', ElS w' B v R C ⟨e.g, e.piv, e.fac ++ [f]⟩ pv (.slice (some ⟨fg, 0, none⟩) fn fc) xs (ps ++ [(.slice a1 n1 r1, .slice a2 n2 r2)]) → w.grownBy w' fv.ownBlock → (fv.ownBlock = some fg ∨ fg = w.heap.size) → K (a.put o.dst (.slice (some ⟨fg, 0, none⟩) fn fc)) w') :
  if Region.wanted o (yielded ops a.tmps) = true then Oper.wp Tryz.prog o a w K Q else E := by
 obtain ⟨i0, hi, hz0, hz1, hz2⟩ := info_parts info_rat
 refine Go.step_append_lies w hgd s x 23 ho B 34 i0 _ 3 56 Tryz.underlying23 hi hz0 hz1 hz2 rfl (by decide) fv e.fac.length (flat e.fac ps) hs hE.F ⟨g, 0, none⟩ 1 c
  [.bool f.neg, .slice a1 n1 r1, .slice a2 n2 r2] hx rfl (World.news_of_block hblk) (by intro u hu; simp at hu; rcases hu with rfl | rfl | rfl <;> rfl) (by decide) (by unfold maxLen; omega) (by omega) hB w.heap.size rfl ?_
 intro g' cap w' hr' hg hgg _
 exact h _ _ _ w' (hE.addF hg hr' (fun k hk => by
  have e : g' = k := by simpa [Value.ownBlock] using hk
  subst e
  rcases hgg with e | e
  ·exact .inl e
  ·exact .inr (by omega)) hr hl) hg hgg
set_option maxRecDepth 100000 in
theorem step_append_piv {ops : Array Oper} {o : Oper} {a : Act} {K : Act → World → Prop} {Q : Exit → Act → World → Prop} {E : Prop} {w : World} (hgd : o.guard = none) (s x : Operand)
  (ho : o.op = .call { callee := .builtin .append, args := #[s, x], argTypes := #[30, 30] })
  {B : Nat} {v : Value} {R C : Nat} {e : El} {pv fv : Value} {xs ps : List (Value × Value)} (hs : a.eval s = pv) (hE : ElS w B v R C e pv fv xs ps) (hL : e.piv.length ≤ 100000) (hB : B ≤ w.heap.size)
  (ad : Addr) (k : Nat) (hx : a.eval x = .slice (some ad) 1 1) (hc : ∀ j y, [Value.int .i64 (k : Int)][j]? = some y → w.cell? (ad.add j) = some y)
  (h : ∀ fg fn fc w', ElS w' B v R C ⟨e.g, e.piv ++ [k], e.fac⟩ (.slice (some ⟨fg, 0, none⟩) fn fc) fv xs ps → w.grownBy w' pv.ownBlock → (pv.ownBlock = some fg ∨ fg = w.heap.size) → K (a.put o.dst (.slice (some ⟨fg, 0, none⟩) fn fc)) w') :
  if Region.wanted o (yielded ops a.tmps) = true then Oper.wp Tryz.prog o a w K Q else E := by
 obtain ⟨i0, hi, hz0, hz1, hz2⟩ := info_parts info_int
 have hl : (natV e.piv).length = e.piv.length := by simp [natV]
 refine Go.step_append_lies w hgd s x 30 ho B 3 i0 (.int .i64 0) 1 8 Tryz.underlying30 hi hz0 hz1 hz2 rfl (by decide) pv (natV e.piv).length ((natV e.piv).map iV) hs hE.P ad 1 1
  [.int .i64 (k : Int)] hx rfl hc (by simp [Value.oneCell']) (by decide) (by unfold maxLen; omega) (by omega) hB w.heap.size rfl ?_
 intro g' cap w' hr' hg hgg _
 have ho' : OwnI w' B (.slice (some ⟨g', 0, none⟩) ((natV e.piv).length + 1) cap) (natV (e.piv ++ [k])) := by
  have e9 : natV (e.piv ++ [k]) = natV e.piv ++ [(k : Int)] := by simp [natV]
  unfold OwnI
  rw [e9, List.length_append, List.map_append]
  exact hr'
 exact h _ _ _ w' (hE.addP hg ho' (fun j hj => by
  have e : g' = j := by simpa [Value.ownBlock] using hj
  subst e
  rcases hgg with e | e
  ·exact .inl e
  ·exact .inr (by omega))) hg hgg
theorem PrS.addedF {w w' : World} {B p : Nat} {a : Option Addr} {N cap R C : Nat} {e : El} {pv fv : Value} {xs ps : List (Value × Value)} {f : Fr} {fg fn fc : Nat} {x y : Value} (h : PrS w B p a N cap R C e pv fv xs ps)
  (hS : ElS w' B (.slice a N cap) R C ⟨e.g, e.piv, e.fac ++ [f]⟩ pv (.slice (some ⟨fg, 0, none⟩) fn fc) xs (ps ++ [(x, y)])) (hD : B5 w' p 79 (.int .i64 (R : Int)) (.int .i64 (C : Int)) (.slice a N cap) pv fv) (hfg : fg ≠ p) (hxy : ∀ k, (x.ownBlock = some k ∨ y.ownBlock = some k) → k ≠ p) :
  PrS (w'.setCell ⟨p, 4, none⟩ (.slice (some ⟨fg, 0, none⟩) fn fc)) B p a N cap R C ⟨e.g, e.piv, e.fac ++ [f]⟩ pv (.slice (some ⟨fg, 0, none⟩) fn fc) xs (ps ++ [(x, y)]) := by
 have off : ∀ k, OnE (.slice a N cap) pv (.slice (some ⟨fg, 0, none⟩) fn fc) xs (ps ++ [(x, y)]) k → k ≠ p := by
  rintro k (h1 | h1 | h1 | ⟨q, hq, h1⟩)
  ·exact h.off k (.inl h1)
  ·exact h.off k (.inr (.inl h1))
  ·have e : fg = k := by simpa [Value.ownBlock] using h1
   rw [← e]; exact hfg
  ·rcases List.mem_append.1 hq with hq | hq
   ·exact h.off k (.inr (.inr (.inr ⟨q, hq, h1⟩)))
   ·obtain rfl := List.mem_singleton.1 hq
    exact hxy k h1
 exact ⟨hD.set4 _, hS.setP off, off, h.hB⟩
theorem PrS.addedP {w w' : World} {B p : Nat} {a : Option Addr} {N cap R C : Nat} {e : El} {pv fv : Value} {xs ps : List (Value × Value)} {k : Nat} {fg fn fc : Nat} (h : PrS w B p a N cap R C e pv fv xs ps)
  (hS : ElS w' B (.slice a N cap) R C ⟨e.g, e.piv ++ [k], e.fac⟩ (.slice (some ⟨fg, 0, none⟩) fn fc) fv xs ps) (hD : B5 w' p 79 (.int .i64 (R : Int)) (.int .i64 (C : Int)) (.slice a N cap) pv fv) (hfg : fg ≠ p) :
  PrS (w'.setCell ⟨p, 3, none⟩ (.slice (some ⟨fg, 0, none⟩) fn fc)) B p a N cap R C ⟨e.g, e.piv ++ [k], e.fac⟩ (.slice (some ⟨fg, 0, none⟩) fn fc) fv xs ps := by
 have off : ∀ k, OnE (.slice a N cap) (.slice (some ⟨fg, 0, none⟩) fn fc) fv xs ps k → k ≠ p := by
  rintro k (h1 | h1 | h1)
  ·exact h.off k (.inl h1)
  ·have e : fg = k := by simpa [Value.ownBlock] using h1
   rw [← e]; exact hfg
  ·exact h.off k (.inr (.inr h1))
 exact ⟨hD.set3 _, hS.setP off, off, h.hB⟩
theorem impl_m1 (w : World) : Calls Tryz.prog 59 #[.int .i64 (-1)] w fun r w' => ∃ a c d b, r = .returned (.agg #[.bool m1F.neg, .slice a m1F.mag.length c, .slice d m1F.den.length b]) ∧ OwnR w' w.heap.size (.slice a m1F.mag.length c) m1F.mag (.slice d m1F.den.length b) m1F.den ∧ Below w.heap.size w w' := by
 have h := impl_ratFromIntL (-1) w (by omega)
 have e := m1_eq
 have e1 : ofB (-1) = m1F.neg := congrArg Fr.neg e
 have e2 : ofL (-1) = m1F.mag := congrArg Fr.mag e
 have e3 : oneL = m1F.den := congrArg Fr.den e
 rw [e1, e2, e3] at h
 refine h.mono ?_
 rintro r w' ⟨v, d, rfl, ho, hb⟩
 obtain ⟨a, c, d, b, rfl, rfl⟩ := ho.slices
 exact ⟨a, c, d, b, rfl, ho, hb⟩
set_option maxRecDepth 100000 in
set_option maxHeartbeats 4000000 in
theorem impl_exchange (p q N cap B R C i n : Nat) (e : El) (pv fv : Value) (xs ps : List (Value × Value)) (w : World) (h : PrS w B p (some ⟨q, 0, none⟩) N cap R C e pv fv xs ps) (hN : N = R * C) (hR : R ≤ 24) (hC : C ≤ 24) (hC0 : 0 < C) (hi : i < R) (hn : n < R) (hB : B ≤ w.heap.size) (hfl : e.fac.length ≤ 1000) :
  Calls Tryz.prog 162 #[.pointer (some ⟨p, 0, none⟩), .int .i64 (i : Int), .int .i64 (n : Int)] w fun r w' => (∃ v, r = .returned v) ∧ (∃ fv' xs' ps', PrS w' B p (some ⟨q, 0, none⟩) N cap R C ⟨exG e.g i n, e.piv, e.fac ++ (if i = n then [] else [m1F])⟩ pv fv' xs' ps' ∧ (∀ j, fv'.ownBlock = some j → fv.ownBlock = some j ∨ w.heap.size ≤ j)) ∧ Kept (fun j => j = q ∨ j = p ∨ fv.ownBlock = some j) w w' ∧ Below B w w' := by
 have hRC : R * C ≤ 24 * 24 := Nat.mul_le_mul hR hC
 have hN9 : N ≤ 576 := by omega
 have HN := Lib.hid hN
 have HB9 := Lib.hid hB
 have hcap : N ≤ cap ∧ cap ≤ 9223372036854775807 := by
  obtain ⟨a9, c9, e9, z1, z2⟩ := ratsAt_form h.S.V.rats
  injection e9 with e1 e2 e3
  have := h.S.V.count
  omega
 obtain ⟨FX, hFX⟩ : ∃ x, x = e.fac ++ (if i = n then [] else [m1F]) := ⟨_, rfl⟩
 rw [← hFX]
 have HFX := Lib.hid hFX
 clear hFX
 by_cases hin : i = n
 ·have he : ((i : Int) == (n : Int)) = true := by rw [beq_iff_eq]; omega
  have HS := Lib.hid (show PrS w B p (some ⟨q, 0, none⟩) N cap R C ⟨exG e.g i n, e.piv, FX⟩ pv fv xs ps by
   rw [HFX.out, if_pos hin, List.append_nil, hin, exG_self]; exact h)
  clear h hN hin
  go_enter Tryz.func162, Tryz.ntmps162
  go_wp2_with fail
  refine bodyPost_ret (results_none rfl _ _ _) rfl ?_
  exact ⟨⟨_, rfl⟩, ⟨_, _, _, HS.out, fun j hj => .inl hj⟩, Kept.refl _ _, Below.refl _ _⟩
 ·have he : ((i : Int) == (n : Int)) = false := by rw [beq_eq_false_iff_ne]; omega
  have HFE := Lib.hid (show FX = e.fac ++ [m1F] by rw [HFX.out, if_neg hin])
  have hi9 := row_in (C := C) hi
  have hn9 := row_in (C := C) hn
  obtain ⟨l1, hl1⟩ : ∃ l, i * C * 3 = l := ⟨_, rfl⟩
  obtain ⟨l2, hl2⟩ : ∃ l, n * C * 3 = l := ⟨_, rfl⟩
  have HR1 := Lib.hid (fun W (hW : Below w.heap.size w W) => (impl_row (R : Int) C i N (some ⟨q, 0, none⟩) cap W (by omega) hN9 hC (by omega) hcap.1 hcap.2).mono (R' := fun e w' => e = .returned (.slice (some ⟨q, l1, none⟩) C C) ∧ Below w.heap.size w w') (fun e w' ⟨he, hb⟩ => ⟨by rw [he, rowV_some hC0, Nat.zero_add, hl1], hW.trans (hb.mono hW.size)⟩))
  have HR2 := Lib.hid (fun W (hW : Below w.heap.size w W) => (impl_row (R : Int) C n N (some ⟨q, 0, none⟩) cap W (by omega) hN9 hC (by omega) hcap.1 hcap.2).mono (R' := fun e w' => e = .returned (.slice (some ⟨q, l2, none⟩) C C) ∧ Below w.heap.size w w') (fun e w' ⟨he, hb⟩ => ⟨by rw [he, rowV_some hC0, Nat.zero_add, hl2], hW.trans (hb.mono hW.size)⟩))
  have HL1 := Lib.hid hl1
  have HL2 := Lib.hid hl2
  have HP := Lib.hid h
  have d0 := h.D.c0
  have d1 := h.D.c1
  have d2 := h.D.c2
  have HS := Lib.hid (show ∀ W : World, Below w.heap.size w W → (W.cell? ⟨p, 0, none⟩ = some (.int .i64 (R : Int)) ∧ W.cell? ⟨p, 1, none⟩ = some (.int .i64 (C : Int)) ∧ W.cell? ⟨p, 2, none⟩ = some (.slice (some ⟨q, 0, none⟩) N cap)) from fun W hW => ⟨(HP.out.D.below hW).c0, (HP.out.D.below hW).c1, (HP.out.D.below hW).c2⟩)
  have HIN := Lib.hid hin
  clear h hN hl1 hl2 hi9 hn9 hRC hin
  go_enter Tryz.func162, Tryz.ntmps162
  go_wp2_with fail
  go_region_held3 (fun w' => w'.cell? ⟨p, 0, none⟩ = some (.int .i64 (R : Int)) ∧ w'.cell? ⟨p, 1, none⟩ = some (.int .i64 (C : Int)) ∧ w'.cell? ⟨p, 2, none⟩ = some (.slice (some ⟨q, 0, none⟩) N cap))
   (exact HS.out _ (by first | with_reducible exact Below.refl _ _ | with_reducible exact (Below.refl _ _).drew | with_reducible exact bb_a | with_reducible exact bb_b | with_reducible exact bb_m | with_reducible exact bb_s | with_reducible exact bb_d | fail))
   (first
    | (go_at_call 75; with_reducible refine (HR1.out _ (by first | with_reducible exact Below.refl _ _ | with_reducible exact (Below.refl _ _).drew | with_reducible exact bb_a | with_reducible exact bb_b | with_reducible exact bb_m | with_reducible exact bb_s | with_reducible exact bb_d | fail)).mono ?_; rintro ee w_a ⟨rfl, bb_a⟩)
    | (go_at_call 75; with_reducible refine (HR2.out _ (by first | with_reducible exact Below.refl _ _ | with_reducible exact (Below.refl _ _).drew | with_reducible exact bb_a | with_reducible exact bb_b | with_reducible exact bb_m | with_reducible exact bb_s | with_reducible exact bb_d | fail)).mono ?_; rintro ee w_b ⟨rfl, bb_b⟩))
  have PB := Lib.hid (show PrS w_b B p (some ⟨q, 0, none⟩) N cap R C ⟨exP e.g i n 0, e.piv, e.fac⟩ pv fv xs ps by rw [exP_zero]; exact HP.out.below bb_b)
  have BB0 := Lib.hid (bb_b.mono hB)
  have KK0 := Lib.hid (show Kept (fun j => j = q) w w_b from Kept.of_below bb_b)
  clear HR1 HR2 HS HP bb_a bb_b d0 d1 d2
  go_wp2_with fail
  go_loopw [26] (fun cv wi => ∃ (j : Nat) (zs : List (Value × Value)), j ≤ C ∧ cv = .int .i64 j ∧ Hid (PrS wi B p (some ⟨q, 0, none⟩) N cap R C ⟨exP e.g i n j, e.piv, e.fac⟩ pv fv zs ps) ∧ Hid (Below B w wi) ∧ Hid (Kept (fun j => j = q) w wi)) (fun cv _ => C - (intOf cv).toNat)
  case atStart => exact ⟨0, xs, Nat.zero_le _, rfl, PB, BB0, KK0⟩
  case round =>
   clear PB BB0 KK0 xs
   obtain ⟨j, xs, hj, rfl, P, BB, KK⟩ := hrel
   by_cases hlj : j < C
   ·have hnj : n * C + j < N := by have := at_lt hn hlj; rw [HN.out]; exact this
    have hij : i * C + j < N := by have := at_lt hi hlj; rw [HN.out]; exact this
    obtain ⟨a3, r3, a4, r4, hc3, hr3, hp3, -⟩ := elem_at P.out.S.V' HN.out hn hlj
    obtain ⟨a5, r5, a6, r6, hc5, hr5, hp5, -⟩ := elem_at P.out.S.V' HN.out hi hlj
    have E3 : exP e.g i n j n j = e.g n j := by unfold exP; rw [if_neg (by omega)]
    have E5 : exP e.g i n j i j = e.g i j := by unfold exP; rw [if_neg (by omega)]
    rw [E3] at hc3 hr3 hp3
    rw [E5] at hc5 hr5 hp5
    obtain ⟨y, hy⟩ : ∃ y, y = e.g n j := ⟨_, rfl⟩
    obtain ⟨x, hx⟩ : ∃ x, x = e.g i j := ⟨_, rfl⟩
    rw [← hy] at hc3 hr3 hp3 E3
    rw [← hx] at hc5 hr5 hp5 E5
    have HXY := Lib.hid (And.intro hx hy)
    have HE3 := Lib.hid (And.intro E3 E5)
    clear hx hy E3 E5
    have HK1 := Lib.hid (show (i * C + j) * 3 = l1 + j * 3 by rw [← HL1.out]; omega)
    have HK2 := Lib.hid (show (n * C + j) * 3 = l2 + j * 3 by rw [← HL2.out]; omega)
    rw [HK1.out] at hc5
    rw [HK2.out] at hc3
    have s0 := hc5.1
    have s1 := hc5.2.1
    have s2 := hc5.2.2
    have u0 := hc3.1
    have u1 := hc3.2.1
    have u2 := hc3.2.2
    have t0 := P.out.S.V'.frozen (l1 + j * 3)
    have t1 := P.out.S.V'.frozen (l1 + j * 3 + 1)
    have t2 := P.out.S.V'.frozen (l1 + j * 3 + 2)
    have t3 := P.out.S.V'.frozen (l2 + j * 3)
    have t4 := P.out.S.V'.frozen (l2 + j * 3 + 1)
    have t5 := P.out.S.V'.frozen (l2 + j * 3 + 2)
    have v3 := P.out.S.V'.after3 (i * C + j) (n * C + j) (.bool y.neg) (.slice a3 y.mag.length r3) (.slice a4 y.den.length r4) (by rw [tabM_len, ← HN.out]; exact hnj) rfl
    rw [HK1.out, HK2.out] at v3
    obtain ⟨⟨z0, y0⟩, ⟨z1, y1⟩, ⟨z2, y2⟩, t6, t7, t8⟩ := v3
    obtain ⟨ys, SWV, SWO⟩ := swap_at P.out.S.V' hi hn hlj hp5 hp3 rfl rfl
    have KF := kept6 wr q (i * C + j) (n * C + j) (.bool y.neg) (.slice a3 y.mag.length r3) (.slice a4 y.den.length r4) (.bool x.neg) (.slice a5 x.mag.length r5) (.slice a6 x.den.length r6)
    rw [HE3.out.1, HE3.out.2] at SWV
    dsimp only at SWV
    rw [show ((tabM R C (exP e.g i n j)).set (i * C + j) y).set (n * C + j) x = tabM R C (exP e.g i n (j + 1)) by rw [HXY.out.2, HXY.out.1]; exact exP_step hi hn hlj, HK1.out, HK2.out] at SWV
    rw [HK1.out, HK2.out] at KF
    have PW := Lib.hid (P.out.cells SWV KF (fun b hb => .inl (by rw [hb]; rfl)) (fun b hb => .inl (SWO b hb)))
    have BW := Lib.hid (below_kept BB.out KF (Nat.le_trans HB9.out BB.out.size) (fun b hb => by rw [hb]; exact (P.out.S.V'.lt q (.inl rfl)).1))
    have KW := Lib.hid (KK.out.trans KF)
    have x1 : (0 : Int) ≤ (j : Int) := by omega
    have x2 : (j : Int) < (C : Int) := by omega
    clear SWV KF SWO hc3 hc5 hr3 hr5 hp3 hp5 P BB KK hnj hij
    go_wp2_with fail
    go_region
    go_wp2_with fail
    exact ⟨⟨j + 1, ys, by omega, by go_num, Lib.hid PW.out.drew, Lib.hid BW.out.drew, Lib.hid KW.out.drew⟩, by simp [intOf]; omega⟩
   ·have hjC : C = j := by omega
    subst hjC
    have P2 := Lib.hid (P.out.re (exP_end e.g i n))
    clear P
    have BS := Lib.hid (Nat.le_trans HB9.out BB.out.size)
    have DH := Lib.hid (fun W (hW : Below wr.heap.size wr W) => P2.out.D.below hW)
    have SH := Lib.hid (fun W (hW : Below wr.heap.size wr W) => P2.out.S.below hW)
    have LA := Lib.hid P2.out.S.lt_all
    have HM1 := Lib.hid (fun W (hW : Below wr.heap.size wr W) => (impl_m1 W).mono (R' := fun r w' => ∃ a c d b, r = .returned (.agg #[.bool m1F.neg, .slice a m1F.mag.length c, .slice d m1F.den.length b]) ∧ OwnR w' wr.heap.size (.slice a m1F.mag.length c) m1F.mag (.slice d m1F.den.length b) m1F.den ∧ Below wr.heap.size wr w') (fun e w' ⟨a, c, d, b, he, ho, hb⟩ => ⟨a, c, d, b, he, ho.base hW.size, hW.trans (hb.mono hW.size)⟩))
    have hpl := P2.out.D.lt
    have s4 := P2.out.D.c4
    have s5 := P2.out.D.f 4
    have TST := Lib.hid (show ∀ (w_m : World) (a_m : Option Addr) (c_m : Nat) (d_m : Option Addr) (b_m : Nat), OwnR w_m wr.heap.size (.slice a_m m1F.mag.length c_m) m1F.mag (.slice d_m m1F.den.length b_m) m1F.den → Below wr.heap.size wr w_m →
      (ElS (w_m.alloc (.cells #[.bool m1F.neg, .slice a_m m1F.mag.length c_m, .slice d_m m1F.den.length b_m] 34)) B (.slice (some ⟨q, 0, none⟩) N cap) R C ⟨exG e.g i n, e.piv, e.fac⟩ pv fv xs ps ∧ B ≤ (w_m.alloc (.cells #[.bool m1F.neg, .slice a_m m1F.mag.length c_m, .slice d_m m1F.den.length b_m] 34)).heap.size ∧ (w_m.alloc (.cells #[.bool m1F.neg, .slice a_m m1F.mag.length c_m, .slice d_m m1F.den.length b_m] 34)).heap[w_m.heap.size]? = some (.cells #[.bool m1F.neg, .slice a_m m1F.mag.length c_m, .slice d_m m1F.den.length b_m] 34 (0, 0)) ∧ RowR (w_m.alloc (.cells #[.bool m1F.neg, .slice a_m m1F.mag.length c_m, .slice d_m m1F.den.length b_m] 34)) (.slice a_m m1F.mag.length c_m) m1F.mag (.slice d_m m1F.den.length b_m) m1F.den ∧
       (∀ k, ((Value.slice a_m m1F.mag.length c_m).ownBlock = some k ∨ (Value.slice d_m m1F.den.length b_m).ownBlock = some k) → k < (w_m.alloc (.cells #[.bool m1F.neg, .slice a_m m1F.mag.length c_m, .slice d_m m1F.den.length b_m] 34)).heap.size ∧ (Value.slice (some ⟨q, 0, none⟩) N cap).ownBlock ≠ some k ∧ pv.ownBlock ≠ some k ∧ fv.ownBlock ≠ some k)) from by
     intro w_m a_m c_m d_m b_m o_m bb_m
     have hbb := bb_m.size
     have lr := o_m.lt
     have hbs := BS.out
     refine ⟨(SH.out _ bb_m).alloc _, by simp; omega, World.alloc_heap_new _ _, (o_m.alloc _).row, fun b hb => ⟨by have := (lr b hb).2; simp; omega, fun h1 => ?_, fun h1 => ?_, fun h1 => ?_⟩⟩
     ·have h3 := (lr b hb).1; have h4 := LA.out b (.inl (.inl h1)); omega
     ·have h3 := (lr b hb).1; have h4 := LA.out b (.inr (.inl h1)); omega
     ·have h3 := (lr b hb).1; have h4 := LA.out b (.inr (.inr (.inl h1))); omega)
    have HFL := Lib.hid (show e.fac.length ≤ 100000 by omega)
    go_wp2_with fail
    go_region_law (first
     | (obtain ⟨t1, t2, t3, t4, t5⟩ := TST.out _ _ _ _ _ O_m.out bb_m; refine step_append_fac rfl _ _ rfl rfl t1 HFL.out t2 _ _ rfl m1F _ _ _ _ _ _ t3 t4 t5 ?_; intro fg fn fc w_n S_n g_n q_n; have D5 := ((DH.out _ bb_m).alloc (.cells #[.bool m1F.neg, .slice a_m m1F.mag.length c_m, .slice d_m m1F.den.length b_m] 34)).keptK (Kept.of_grown g_n) (fun e9 => P2.out.off p (.inr (.inr (.inl e9))) rfl); have s4 := D5.c4; have s5 := D5.f 4)
     | (go_simp; go_at_call 59; refine (HM1.out _ (by first | with_reducible exact Below.refl _ _ | with_reducible exact (Below.refl _ _).drew | fail)).mono ?_; rintro ee w_m ⟨a_m, c_m, d_m, b_m, rfl, o_m, bb_m⟩; have O_m := Lib.hid o_m; clear o_m; have q4 := ((DH.out _ bb_m).alloc (.cells #[.bool m1F.neg, .slice a_m m1F.mag.length c_m, .slice d_m m1F.den.length b_m] 34)).c4; have Y9 := DH.out _ bb_m; have s4 := Y9.c4; have s5 := Y9.f 4)
     | fail)
    all_goals (have hbb := bb_m.size)
    all_goals (have hbs := BS.out)
    all_goals (have PF := Lib.hid (P2.out.addedF S_n D5 (by
     rcases q_n with h9 | h9
     ·exact P2.out.off fg (.inr (.inr (.inl h9)))
     ·intro e9; simp at h9; omega) (fun b hb => by have := (O_m.out.lt b hb).1; omega)))
    all_goals (have BF := Lib.hid ((((BB.out.trans (bb_m.mono hbs)).alloc (by omega) (.cells #[.bool m1F.neg, .slice a_m m1F.mag.length c_m, .slice d_m m1F.den.length b_m] 34)).grown g_n (by simp; omega) (fun b hb => (P2.out.S.F.lt b hb).1)).setCell (p := ⟨p, 4, none⟩) P2.out.hB (.slice (some ⟨fg, 0, none⟩) fn fc)))
    all_goals (have KF := Lib.hid (show Kept (fun j => j = q ∨ j = p ∨ fv.ownBlock = some j) w _ from (((KK.out.mono (fun j e => .inl e)).trans (Kept.of_below (bb_m.alloc hbb (.cells #[.bool m1F.neg, .slice a_m m1F.mag.length c_m, .slice d_m m1F.den.length b_m] 34)))).trans ((Kept.of_grown g_n).mono (fun j e => .inr (.inr e)))).trans ((kept_set w_n p 4 (.slice (some ⟨fg, 0, none⟩) fn fc)).mono (fun j e => .inr (.inl e)))))
    all_goals (have QF := Lib.hid (show ∀ j, (Value.slice (some ⟨fg, 0, none⟩) fn fc).ownBlock = some j → fv.ownBlock = some j ∨ w.heap.size ≤ j from fun j hj => by
     have e9 : fg = j := by simpa [Value.ownBlock] using hj
     rw [← e9]
     have hkk := KK.out.size
     rcases q_n with h9 | h9
     ·exact .inl h9
     ·right; simp at h9; omega))
    all_goals clear S_n D5 g_n q_n TST HM1 SH DH LA s4 s5
    all_goals go_wp2
    all_goals go_end0
    all_goals first | exact ⟨⟨_, rfl⟩, ⟨_, ⟨_, _, by rw [HFE.out]; exact PF.out⟩, QF.out⟩, KF.out, BF.out⟩ | exact ⟨⟨_, rfl⟩, ⟨_, _, _, by rw [HFE.out]; exact PF.out, QF.out⟩, KF.out, BF.out⟩
end Go.Proofs.YtlepgkkpopjgoaaGreat
namespace Go.Proofs.YtlepgkkpopjgoaaGreat
open Go.RowKit Go.WideShapes Go.ChangeShapes
set_option linter.unusedVariables false
set_option linter.unusedSimpArgs false
theorem part_in {R C a k : Nat} (ha : a < R) (hk : k < C) : a * C + k + (C - k) ≤ R * C := by have := row_in (C := C) ha; omega
theorem part_tab {R C a k : Nat} {g : Mx} (ha : a < R) (hk : k < C) : partL (tabM R C g) (a * C + k) (C - k) = (List.range (C - k)).map (fun j => g a (k + j)) := by
 have hin := part_in ha hk
 apply List.ext_getElem
 ·rw [partL_len (by rw [tabM_len]; exact hin)]; simp
 ·intro j h1 h2
  have hj : j < C - k := by simpa using h2
  rw [partL_get (by rw [tabM_len]; exact hin)]
  simp only [List.getElem_map, List.getElem_range]
  have h3 : a * C + (k + j) < (tabM R C g).length := by rw [tabM_len]; exact at_lt ha (by omega)
  have := tabM_get (g := g) (R := R) (i := a) (k := k + j) (by omega : k + j < C) h3
  rw [← this]
  congr 1; omega
theorem part_len {R C a k : Nat} {g : Mx} (ha : a < R) (hk : k < C) : (partL (tabM R C g) (a * C + k) (C - k)).length = C - k := by rw [part_tab ha hk]; simp
theorem spl_tab {R C a k : Nat} {g : Mx} {M : List Fr} (ha : a < R) (hk : k < C) (hM : M.length = C - k) {g' : Mx} (h1 : ∀ j (hj : j < M.length), M[j]'hj = g' a (k + j)) (h2 : ∀ r b, r < R → b < C → ¬ (r = a ∧ k ≤ b) → g r b = g' r b) :
  spl (tabM R C g) (a * C + k) M = tabM R C g' := by
 have hin := part_in ha hk
 have hl : a * C + k + M.length ≤ (tabM R C g).length := by rw [tabM_len, hM]; exact hin
 apply List.ext_getElem (by rw [spl_len hl, tabM_len, tabM_len])
 intro p hp1 hp2
 have hp : p < R * C := by rw [tabM_len] at hp2; exact hp2
 have hC : 0 < C := by omega
 have hr : p / C < R := by rw [Nat.div_lt_iff_lt_mul hC]; exact hp
 have hb : p % C < C := Nat.mod_lt _ hC
 have hd := Nat.div_add_mod' p C
 have e2 : (tabM R C g')[p]'hp2 = g' (p / C) (p % C) := by simp [tabM]
 have e1 : (tabM R C g)[p]'(by rw [tabM_len]; exact hp) = g (p / C) (p % C) := by simp [tabM]
 rw [spl_get hl, e2]
 split
 ·next h3 =>
  have hpa : p / C = a := by
   have h4 := row_in (C := C) ha
   have h5 : a * C ≤ p := by omega
   have h6 : p < (a + 1) * C := by rw [Nat.add_mul, Nat.one_mul]; omega
   have h7 := (Nat.le_div_iff_mul_le hC).2 h5
   have h8 := (Nat.div_lt_iff_lt_mul hC).2 h6
   omega
  rw [h1 _ (by omega), hpa]
  rw [hpa] at hd
  congr 1; omega
 ·next h3 =>
  rw [e1]
  refine h2 _ _ hr hb ?_
  rintro ⟨h4, h5⟩
  rw [h4] at hd
  apply h3
  rw [hM]
  omega
theorem fine_iff {L : List Fr} : fineV L = true ↔ ∀ k (hk : k < L.length), badF (L[k]'hk) = false := by
 unfold fineV
 rw [List.all_eq_true]
 constructor
 ·intro h k hk
  have := h _ (List.getElem_mem hk)
  simpa using this
 ·intro h f hf
  obtain ⟨k, hk, rfl⟩ := List.getElem_of_mem hf
  rw [h k hk]; rfl
theorem quot_fine {R C n k : Nat} {g : Mx} (hok : OkM R C g) (hn : n < R) (hk : k < C) (hp : nilF (g n k) = false) :
  fineV (mulsL (invX (g n k)) (partL (tabM R C g) (n * C + k) (C - k))) = true ↔ ∀ b, k ≤ b → b < C → okF (dvG g n k n b) = true := by
 rw [fine_iff, part_tab hn hk]
 have hl : (mulsL (invX (g n k)) ((List.range (C - k)).map (fun j => g n (k + j)))).length = C - k := by simp [mulsL]
 have he : ∀ j (hj : j < (mulsL (invX (g n k)) ((List.range (C - k)).map (fun j => g n (k + j)))).length), (mulsL (invX (g n k)) ((List.range (C - k)).map (fun j => g n (k + j))))[j]'hj = dvG g n k n (k + j) := by
  intro j hj
  simp only [mulsL, List.getElem_map, List.getElem_range, mul_inv]
  unfold dvG
  rw [if_pos ⟨rfl, by omega⟩]
 have hgd : ∀ b, k ≤ b → b < C → goodF (dvG g n k n b) := fun b h1 h2 => by
  unfold dvG
  rw [if_pos ⟨rfl, h1⟩]
  exact ok_div (hok n b hn h2) (hok n k hn hk) hp
 constructor
 ·intro h b h1 h2
  have h3 := h (b - k) (by rw [hl]; omega)
  rw [he, show k + (b - k) = b by omega] at h3
  rw [ok_bad (hgd b h1 h2), h3]; rfl
 ·intro h j hj
  rw [he]
  have hj' : j < C - k := by rw [hl] at hj; exact hj
  have h3 := h (k + j) (by omega) (by omega)
  rw [ok_bad (hgd _ (by omega) (by omega))] at h3
  simpa using h3
theorem quot_spl {R C n k : Nat} {g : Mx} (hn : n < R) (hk : k < C) : spl (tabM R C g) (n * C + k) (mulsL (invX (g n k)) (partL (tabM R C g) (n * C + k) (C - k))) = tabM R C (dvG g n k) := by
 rw [part_tab hn hk]
 refine spl_tab hn hk (by simp [mulsL]) (fun j hj => ?_) (fun r b _ _ h => ?_)
 ·simp only [mulsL, List.getElem_map, List.getElem_range, mul_inv]
  unfold dvG
  rw [if_pos ⟨rfl, by omega⟩]
 ·unfold dvG
  rw [if_neg h]
theorem mulX_comm2 (f g : Fr) : mulX f g = mulX g f := by
 unfold mulX
 rw [Nat.mul_comm (natI f.mag), Nat.mul_comm (natI f.den), show (f.neg == g.neg) = (g.neg == f.neg) by cases f.neg <;> cases g.neg <;> rfl]
theorem subX_zF {f : Fr} (h : okF f = true) : subX f zF = f := by
 have e : negX zF = zF := by unfold negX zF; simp [natI_nil]
 unfold subX
 rw [e]
 exact add_zF (.inr h)
theorem cl_sub {f x y : Fr} (hf : okF f = true) (hx : okF x = true) (hy : okF y = true) (h : nilF f = false) : subX x (mulX y f) = (if nilF f || nilF y then x else subX x (mulX f y)) := by
 cases q : nilF y with
 | true =>
  rw [h, mul_nil hy hf (.inl (of_decide_eq_true q)), subX_zF hx]; rfl
 | false =>
  rw [h, mulX_comm2 y f]; rfl
theorem bad_sub {x y : Fr} (h : badF y = true) (hy : goodF y) : subX x y = Fr.zero := by
 rw [bad_of hy h]
 unfold subX
 have e : negX Fr.zero = Fr.zero := by unfold negX Fr.zero; simp [natI_nil]
 rw [e]; exact add_zeroR x
theorem clr_row {R C n k a : Nat} {g : Mx} (hok : OkM R C g) (hn : n < R) (hk : k < C) (ha : a < R) (han : a ≠ n) {gp : Mx} (h1 : ∀ b, gp a b = g a b) (h2 : ∀ b, gp n b = g n b) :
  (clrB (partL (tabM R C gp) (a * C + k) (C - k)) (partL (tabM R C gp) (n * C + k) (C - k)) = true ↔ ∀ b, k ≤ b → b < C → okF (clE g n k a b) = true) ∧
  clrR (partL (tabM R C gp) (a * C + k) (C - k)) (partL (tabM R C gp) (n * C + k) (C - k)) = (List.range (C - k)).map (fun j => clE g n k a (k + j)) := by
 rw [part_tab ha hk, part_tab hn hk]
 have ex : ((List.range (C - k)).map (fun j => gp a (k + j)))[0]?.getD Fr.zero = g a k := by
  rw [List.getElem?_eq_getElem (by simp; omega)]
  simp [h1]
 have e1 : (List.range (C - k)).map (fun j => gp a (k + j)) = (List.range (C - k)).map (fun j => g a (k + j)) := by simp [h1]
 have e2 : (List.range (C - k)).map (fun j => gp n (k + j)) = (List.range (C - k)).map (fun j => g n (k + j)) := by simp [h2]
 unfold clrB clrR clrL
 rw [ex, e1, e2]
 have hf := hok a k ha hk
 cases q : nilF (g a k) with
 | true =>
  constructor
  ·simp only [Bool.true_or, true_iff]
   intro b hb1 hb2
   unfold clE
   rw [q]; simp only [Bool.true_or, if_true]
   exact hok a b ha hb2
  ·simp only [if_true]
   apply List.map_congr_left
   intro j _
   unfold clE
   rw [q]; simp
 | false =>
  have ez : zipF subX ((List.range (C - k)).map (fun j => g a (k + j))) (mulsL (g a k) ((List.range (C - k)).map (fun j => g n (k + j)))) = (List.range (C - k)).map (fun j => clE g n k a (k + j)) := by
   apply List.ext_getElem (by simp [zipF, mulsL])
   intro j h3 h4
   have hj : j < C - k := by simpa using h4
   simp only [zipF, mulsL, List.getElem_zipWith, List.getElem_map, List.getElem_range]
   rw [cl_sub hf (hok a (k + j) ha (by omega)) (hok n (k + j) hn (by omega)) q]
   rfl
  constructor
  ·simp only [Bool.false_or, Bool.and_eq_true, ez]
   rw [fine_iff, fine_iff]
   have hg : ∀ b, k ≤ b → b < C → goodF (clE g n k a b) := fun b _ hb => good_clE hok.good hn hk ha hb
   constructor
   ·rintro ⟨_, h3⟩ b hb1 hb2
    have h4 := h3 (b - k) (by simp; omega)
    simp only [List.getElem_map, List.getElem_range] at h4
    rw [show k + (b - k) = b by omega] at h4
    rw [ok_bad (hg b hb1 hb2), h4]; rfl
   ·intro h3
    refine ⟨fun j hj => ?_, fun j hj => ?_⟩
    ·have hj' : j < C - k := by simpa [mulsL] using hj
     simp only [mulsL, List.getElem_map, List.getElem_range]
     cases qb : badF (mulX (g n (k + j)) (g a k)) with
     | false => rfl
     | true =>
      exfalso
      have h4 := h3 (k + j) (by omega) (by omega)
      have h5 : clE g n k a (k + j) = subX (g a (k + j)) (mulX (g n (k + j)) (g a k)) := (cl_sub hf (hok a (k + j) ha (by omega)) (hok n (k + j) hn (by omega)) q).symm
      rw [h5, bad_sub qb (ok_mul (hok n (k + j) hn (by omega)) hf)] at h4
      cases h4
    ·have hj' : j < C - k := by simpa using hj
     simp only [List.getElem_map, List.getElem_range]
     exact bad_ok (h3 (k + j) (by omega) (by omega))
  ·simp only [Bool.false_eq_true, if_false]
   exact ez
theorem use_fine {R C i n k : Nat} {e : El} (hok : OkM R C e.g) (hn0 : e.piv.length = n) (hi : i < R) (hn : n < R) (hk : k < C) (hp : nilF (e.g i k) = false)
  (hq : ∀ b, k ≤ b → b < C → okF (dvG (exG e.g i n) n k n b) = true) (hr : ∀ a, a < R → a ≠ n → ∀ b, k ≤ b → b < C → okF (clE (dvG (exG e.g i n) n k) n k a b) = true) : fineG R C (useE e i k).g = true := by
 rw [fineG_iff (useE_good hok hi (by rw [hn0]; exact hn) hk hp)]
 intro a b ha hb
 unfold useE
 rw [hn0]
 show okF (clG _ n k a b) = true
 unfold clG
 by_cases h1 : a ≠ n ∧ k ≤ b
 ·rw [if_pos h1]; exact hr a ha h1.1 b h1.2 hb
 ·rw [if_neg h1]
  by_cases h2 : a = n ∧ k ≤ b
  ·obtain ⟨rfl, h2⟩ := h2; exact hq b h2 hb
  ·unfold dvG
   rw [if_neg h2]
   exact hok.ex hi hn a b ha hb
theorem use_badQ {R C i n k b : Nat} {e : El} (hok : OkM R C e.g) (hn0 : e.piv.length = n) (hi : i < R) (hn : n < R) (hk : k < C) (hp : nilF (e.g i k) = false) (hb : b < C) (hb2 : k ≤ b) (h : ¬ okF (dvG (exG e.g i n) n k n b) = true) : fineG R C (useE e i k).g = false := by
 cases q : fineG R C (useE e i k).g with
 | false => rfl
 | true =>
  have h1 := (fineG_iff (useE_good hok hi (by rw [hn0]; exact hn) hk hp)).1 q n b hn hb
  unfold useE at h1
  rw [hn0] at h1
  have h2 : clG (dvG (exG e.g i n) n k) n k n b = dvG (exG e.g i n) n k n b := by unfold clG; rw [if_neg (by omega)]
  exact absurd (h2 ▸ (show okF (clG (dvG (exG e.g i n) n k) n k n b) = true from h1)) h
theorem use_badR {R C i n k a b : Nat} {e : El} (hok : OkM R C e.g) (hn0 : e.piv.length = n) (hi : i < R) (hn : n < R) (hk : k < C) (hp : nilF (e.g i k) = false) (ha : a < R) (han : a ≠ n) (hb : b < C) (hb2 : k ≤ b) (h : ¬ okF (clE (dvG (exG e.g i n) n k) n k a b) = true) : fineG R C (useE e i k).g = false := by
 cases q : fineG R C (useE e i k).g with
 | false => rfl
 | true =>
  have h1 := (fineG_iff (useE_good hok hi (by rw [hn0]; exact hn) hk hp)).1 q a b ha hb
  unfold useE at h1
  rw [hn0] at h1
  have h2 : clG (dvG (exG e.g i n) n k) n k a b = clE (dvG (exG e.g i n) n k) n k a b := by unfold clG; rw [if_pos ⟨han, hb2⟩]
  exact absurd (h2 ▸ (show okF (clG (dvG (exG e.g i n) n k) n k a b) = true from h1)) h
end Go.Proofs.YtlepgkkpopjgoaaGreat
namespace Go.Proofs.YtlepgkkpopjgoaaGreat
open Go.RowKit Go.WideShapes Go.ChangeShapes Go.Shelf
set_option linter.unusedVariables false
set_option linter.unusedSimpArgs false
section
variable {X Y : World} {row : Option Nat}
theorem cell_turn (hg : X.grownBy Y row) (hr : ∀ r, row = some r → ∃ o : Obj, X.heap[r]? = some o ∧ o.isCells = false) {a : Addr} {v : Value} (h : X.cell? a = some v) : Y.cell? a = some v := by
 refine (World.cell?_of_block (hg.block a.block (World.block_lt_of_cell? X a h) ?_)).trans h
 intro e
 obtain ⟨o, ho, hc⟩ := hr a.block e.symm
 unfold World.cell? at h
 rw [ho] at h
 cases o <;> simp [Obj.isCells] at hc h
theorem rowOf_turn (hg : X.grownBy Y row) (hr : ∀ r, row = some r → ∃ o : Obj, X.heap[r]? = some o ∧ o.isCells = false) {v : Value} {l : List Int} (h : RowOf iV X v l) : RowOf iV Y v l := by
 obtain ⟨a, cap, rfl, h1, h2, h3⟩ := h
 refine ⟨a, cap, rfl, h1, h2, fun i hi => ?_⟩
 obtain ⟨b, o, rfl, hc⟩ := h3 i hi
 exact ⟨b, o, rfl, cell_turn hg hr hc⟩
theorem owns_cells {B : Nat} {t : TypeId} {s : Nat} {v : Value} {n : Nat} {l : List Value} (h : X.ownsRow B t s v n l) : ∀ k, v.ownBlock = some k → ∃ o : Obj, X.heap[k]? = some o ∧ o.isCells = true := by
 intro k e
 rcases h.2 with ⟨rfl, _⟩ | ⟨g1, cap1, cur1, rfl, _, hg1, _⟩
 ·simp [Value.ownBlock] at e
 ·have e1 : g1 = k := by simpa [Value.ownBlock] using e
  subst e1
  exact ⟨_, hg1, rfl⟩
theorem not_cells (hr : ∀ r, row = some r → ∃ o : Obj, X.heap[r]? = some o ∧ o.isCells = false) {k : Nat} (h : ∃ o : Obj, X.heap[k]? = some o ∧ o.isCells = true) : row ≠ some k := fun e => by
 obtain ⟨o, ho, hc⟩ := hr k e
 obtain ⟨o', ho', hc'⟩ := h
 rw [ho] at ho'; injection ho' with e1; subst e1; rw [hc] at hc'; cases hc'
theorem OwnV.cellsB {B : Nat} {v : Value} {L : List Fr} {xs : List (Value × Value)} (h : OwnV X B v L xs) : ∀ k, OnV v xs k → ∃ o : Obj, X.heap[k]? = some o ∧ o.isCells = true := by
 rintro k (e | ⟨p, hp, e⟩)
 ·exact owns_cells h.row k e
 ·obtain ⟨i, hi, rfl⟩ := List.getElem_of_mem hp
  have hr := h.each i (by have := h.len; omega) hi
  rcases e with e | e
  ·exact owns_cells hr.1 k e
  ·exact owns_cells hr.2.1 k e
theorem ElS.turn {B : Nat} {v : Value} {R C : Nat} {e : El} {pv fv : Value} {xs ps : List (Value × Value)} (h : ElS X B v R C e pv fv xs ps) (hg : X.grownBy Y row) (hr : ∀ r, row = some r → ∃ o : Obj, X.heap[r]? = some o ∧ o.isCells = false) : ElS Y B v R C e pv fv xs ps := by
 have hk := Kept.of_grown hg
 exact ⟨h.V.kept hk (fun k hk1 e9 => not_cells hr (h.V.cellsB k hk1) e9), h.P.kept hk (fun k hk1 e9 => not_cells hr (owns_cells h.P k hk1) e9), rowV_kept h.F hk (fun k hk1 e9 => not_cells hr (owns_cells h.F k hk1) e9), h.plen,
  fun i hi hi' => ⟨rowOf_turn hg hr (h.fr i hi hi').1, rowOf_turn hg hr (h.fr i hi hi').2⟩, fun q hq k e9 => Nat.lt_of_lt_of_le (h.lt q hq k e9) hg.size, h.vp, h.vf, h.pf, h.qv⟩
theorem PrS.turn {B p : Nat} {a : Option Addr} {N cap R C : Nat} {e : El} {pv fv : Value} {xs ps : List (Value × Value)} (h : PrS X B p a N cap R C e pv fv xs ps) (hg : X.grownBy Y row) (hr : ∀ r, row = some r → ∃ o : Obj, X.heap[r]? = some o ∧ o.isCells = false) : PrS Y B p a N cap R C e pv fv xs ps :=
 ⟨h.D.keptK (Kept.of_grown hg) (fun e9 => not_cells hr ⟨_, h.D, rfl⟩ e9), h.S.turn hg hr, h.off, h.hB⟩
theorem PrS.shut {B p D : Nat} {a : Option Addr} {N cap R C : Nat} {e : El} {pv fv : Value} {xs ps : List (Value × Value)} (h : PrS X B p a N cap R C e pv fv xs ps) (hK : X.heap[D]? = some (.deferred (some []))) : PrS (X.putObj D (.deferred none)) B p a N cap R C e pv fv xs ps :=
 h.turn (grownBy_putObj' X D (.deferred none)) (fun r e => by cases e; exact ⟨_, hK, rfl⟩)
end
theorem Kept.others2 {W W' : World} {g : Nat} {o : Obj} (h : Kept (fun k => k = g) W W') (hg : W.heap[g]? = some o) (hc : o.isCells = true) : KeepsOthers W W' :=
 ⟨h.size, fun k o' hk ho => (h.block k (Array.getElem?_eq_some_iff.1 hk).1 (fun e => by subst e; rw [hg] at hk; injection hk with e1; subst e1; rw [hc] at ho; cases ho)).trans hk⟩
def rowC (n k a : Nat) (g : Mx) : Mx := fun r b => if r = a ∧ a ≠ n ∧ k ≤ b then clE g n k r b else g r b
theorem rowC_self (n k : Nat) (g : Mx) : rowC n k n g = g := by
 funext r b
 unfold rowC
 rw [if_neg (by omega)]
theorem rowC_spl {R C n k a : Nat} {g : Mx} (hk : k < C) (ha : a < R) (han : a ≠ n) : spl (tabM R C g) (a * C + k) ((List.range (C - k)).map (fun j => clE g n k a (k + j))) = tabM R C (rowC n k a g) := by
 refine spl_tab ha hk (by simp) (fun j hj => ?_) (fun r b hr hb h => ?_)
 ·simp only [List.getElem_map, List.getElem_range]
  unfold rowC
  rw [if_pos ⟨rfl, han, by omega⟩]
 ·unfold rowC
  rw [if_neg (fun h9 => h ⟨h9.1, h9.2.2⟩)]
theorem rowC_ok {R C n k a : Nat} {g : Mx} (hok : OkM R C g) (h : ∀ b, k ≤ b → b < C → okF (clE g n k a b) = true) : OkM R C (rowC n k a g) := fun r b hr hb => by
 unfold rowC
 split
 ·next h9 => rw [h9.1]; exact h b h9.2.2 hb
 ·exact hok r b hr hb
theorem rowC_clP {R C n k a : Nat} {g gp : Mx} (ha : a < R) (hn : n < R) (hk : k < C) (h : ∀ r b, r < R → b < C → gp r b = clP g n k a k r b) : ∀ r b, r < R → b < C → rowC n k a gp r b = clP g n k (a + 1) k r b := by
 intro r b hr hb
 unfold rowC
 by_cases h1 : r = a ∧ a ≠ n ∧ k ≤ b
 ·rw [if_pos h1]
  obtain ⟨rfl, h2, h3⟩ := h1
  have e1 : gp r k = g r k := by rw [h r k hr hk, clP_start]
  have e2 : gp n b = g n b := by rw [h n b hn hb, clP_row]
  have e3 : gp r b = g r b := by rw [h r b hr hb, clP_start]
  have e4 : clP g n k (r + 1) k r b = clE g n k r b := by unfold clP; rw [if_pos ⟨h2, h3, by omega⟩]
  rw [e4]
  unfold clE
  rw [e1, e2, e3]
 ·rw [if_neg h1, h r b hr hb]
  unfold clP
  by_cases h2 : r ≠ n ∧ k ≤ b ∧ (r < a ∨ (r = a ∧ b < k))
  ·rw [if_pos h2, if_pos ⟨h2.1, h2.2.1, by omega⟩]
  ·rw [if_neg h2, if_neg (by omega)]
end Go.Proofs.YtlepgkkpopjgoaaGreat
namespace Go.Proofs.YtlepgkkpopjgoaaGreat
open Go.RowKit Go.WideShapes Go.ChangeShapes
set_option linter.unusedVariables false
set_option linter.unusedSimpArgs false
set_option maxRecDepth 100000 in
set_option maxHeartbeats 8000000 in
theorem impl_finishH (HU : ∀ (p q N cap B R C i k : Nat) (e : El) (pv fv : Value) (xs ps : List (Value × Value)) (w : World), PrS w B p (some ⟨q, 0, none⟩) N cap R C e pv fv xs ps → ElOk R C e k → N = R * C → R ≤ 24 → C ≤ 24 → i < R → e.piv.length < R → k < C → nilF (e.g i k) = false → B ≤ w.heap.size →
      Calls Tryz.prog 140 #[.pointer (some ⟨p, 0, none⟩), .int .i64 (i : Int), .int .i64 (k : Int)] w fun r w' => r = .returned (.bool (fineG R C (useE e i k).g)) ∧ (fineG R C (useE e i k).g = true → ∃ pv' fv' xs' ps', PrS w' B p (some ⟨q, 0, none⟩) N cap R C (useE e i k) pv' fv' xs' ps') ∧ Below B w w')
    (p N cap B R C : Nat) (a : Option Addr) (e0 : El) (pv fv : Value) (xs ps : List (Value × Value)) (w : World) (h : PrS w B p a N cap R C e0 pv fv xs ps) (E0 : ElOk R C e0 0) (hN : N = R * C) (hR : R ≤ 24) (hC : C ≤ 24) (hB : B ≤ w.heap.size) :
    Calls Tryz.prog 103 #[.pointer (some ⟨p, 0, none⟩)] w fun r w' => r = .returned (.bool (fineG R C (runE R C C e0).g)) ∧ (fineG R C (runE R C C e0).g = true → ∃ pv' fv' xs' ps', PrS w' B p a N cap R C (runE R C C e0) pv' fv' xs' ps') ∧ Below B w w' := by
  obtain ⟨E, hE⟩ : ∃ E, runE R C C e0 = E := ⟨_, rfl⟩
  rw [hE]
  have HE0 := Lib.hid hE
  have HB9 := Lib.hid hB
  have HN := Lib.hid hN
  have EO0 := Lib.hid E0
  have P0 := Lib.hid h
  have HUH := Lib.hid HU
  have hRC : R * C ≤ 24 * 24 := Nat.mul_le_mul hR hC
  have hN9 : N ≤ 576 := by omega
  have HCAP := Lib.hid (show N ≤ cap ∧ cap ≤ 9223372036854775807 by
    obtain ⟨a9, c9, e9, z1, z2⟩ := ratsAt_form h.S.V.rats
    injection e9 with e1 e2 e3
    have := h.S.V.count
    rw [tabM_len] at e2 z1
    omega)
  have d1 := h.D.c1
  clear hE E0 h HU hN hRC
  obtain ⟨ZF, hZF⟩ : ∃ z, z = fineG R C E.g := ⟨_, rfl⟩
  rw [← hZF]
  have HZF := Lib.hid hZF
  clear hZF
  go_enter Tryz.func103, Tryz.ntmps103
  go_wp2
  go_step3
  go_wp2
  go_step3
  go_wp2
  clear d1
  go_loopw [10] (fun cv wr => ∃ (k : Nat) (e : El) (pv fv : Value) (xs ps : List (Value × Value)), k ≤ C ∧ cv = .int .i64 k ∧ Hid (ElOk R C e k) ∧ Hid (runE R C (C - k) e = E) ∧ Hid (PrS wr B p a N cap R C e pv fv xs ps) ∧ Hid (Below B w wr)) (fun cv _ => C - (intOf cv).toNat)
  case atStart => exact ⟨0, e0, pv, fv, xs, ps, Nat.zero_le _, rfl, EO0, HE0, P0, Lib.hid (Below.refl _ _)⟩
  case round =>
    clear EO0 HE0 P0
    obtain ⟨k, e, pv, fv, xs, ps, hk, rfl, EO, HE, P, BB⟩ := hrel
    by_cases hlt : k < C
    · obtain ⟨pa, pc, hpv⟩ := P.out.S.P.slice
      rw [natV_len] at hpv
      have hn := EO.out.len
      obtain ⟨n, hnn⟩ : ∃ n, e.piv.length = n := ⟨_, rfl⟩
      rw [hnn] at hpv hn
      have HNN := Lib.hid hnn
      clear hnn
      subst hpv
      have d0 := P.out.D.c0
      have d3 := P.out.D.c3
      go_wp2
      go_loopw [4] (fun iv wi => ∃ (i : Nat), n ≤ i ∧ i ≤ R ∧ iv = .int .i64 i ∧ Hid (∀ b, n ≤ b → b < i → nilF (e.g b k) = true) ∧ Hid (PrS wi B p a N cap R C e (.slice pa n pc) fv xs ps) ∧ Hid (Below B w wi)) (fun iv _ => R - (intOf iv).toNat)
      case atStart => exact ⟨n, Nat.le_refl _, by omega, rfl, Lib.hid (fun b h1 h2 => by omega), P, BB⟩
      case round =>
        clear P BB d0 d3
        obtain ⟨i, hni, hi, rfl, NI, P, BB⟩ := hrel
        have d0 := P.out.D.c0
        have d1 := P.out.D.c1
        have d2 := P.out.D.c2
        by_cases hil : i < R
        · have heR : ((i : Int) == (R : Int)) = false := by rw [beq_eq_false_iff_ne]; omega
          have hnR : n < R := by omega
          have hN0 : 0 < (tabM R C e.g).length := by rw [tabM_len]; exact Nat.mul_pos (by omega) (by omega)
          obtain ⟨q, c9, hs9, hq1, hq2⟩ := P.out.S.V.some_at hN0
          injection hs9 with z1 z2 z3
          subst z1
          clear z2 z3 hN0 c9 hq1
          have hik : i * C + k < N := by have := at_lt hil hlt; rw [HN.out]; exact this
          have hi9 := row_in (C := C) hil
          have hRC9 : R * C = N := HN.out.symm
          obtain ⟨a1, r1, a2, r2, hcc, hrr, -, -⟩ := elem_at P.out.S.V HN.out hil hlt
          obtain ⟨f, hf⟩ : ∃ f, f = e.g i k := ⟨_, rfl⟩
          rw [← hf] at hcc hrr
          have HF := Lib.hid hf
          obtain ⟨l, hl⟩ : ∃ l, i * C * 3 = l := ⟨_, rfl⟩
          have HROW := Lib.hid ((impl_row (R : Int) C i N (some ⟨q, 0, none⟩) cap wr (by omega) hN9 hC (by omega) HCAP.out.1 HCAP.out.2).mono (R' := fun e w' => e = .returned (.slice (some ⟨q, l, none⟩) C C) ∧ Below wr.heap.size wr w') (fun e w' ⟨he, hb⟩ => ⟨by rw [he, rowV_some (by omega), Nat.zero_add, hl], hb⟩))
          have HK := Lib.hid (show (i * C + k) * 3 = l + k * 3 by rw [← hl]; omega)
          rw [HK.out] at hcc
          have RR := Lib.hid hrr
          have HCC := Lib.hid hcc
          clear hf hl hi9 hRC9 hcc hrr hik
          have hBr : B ≤ wr.heap.size := Nat.le_trans HB9.out BB.out.size
          have x1 : (0 : Int) ≤ (k : Int) := by omega
          have x2 : (k : Int) < (C : Int) := by omega
          go_wp2_with fail
          refine (HROW.out).mono ?_
          rintro ee w1 ⟨rfl, b1⟩
          have s0 := (b1.cell (p := ⟨q, l + k * 3, none⟩) (World.block_lt_of_cell? wr _ HCC.out.1)).trans HCC.out.1
          have s1 := (b1.cell (p := ⟨q, l + k * 3 + 1, none⟩) (World.block_lt_of_cell? wr _ HCC.out.2.1)).trans HCC.out.2.1
          have s2 := (b1.cell (p := ⟨q, l + k * 3 + 2, none⟩) (World.block_lt_of_cell? wr _ HCC.out.2.2)).trans HCC.out.2.2
          have P1 := Lib.hid (P.out.below b1)
          have BB1 := Lib.hid (BB.out.trans (b1.mono hBr))
          have RR1 := Lib.hid (RR.out.below b1)
          clear b1 P BB RR HCC HROW d0 d1 d2
          go_wp2_with fail
          cases hq0 : nilF f with
          | true =>
            refine (impl_isZero f _ _ _ RR1.out).mono ?_
            rw [hq0]
            rintro ee w2 ⟨rfl, b1⟩
            have P2 := Lib.hid (P1.out.below b1)
            have BB2 := Lib.hid (BB1.out.trans (b1.mono (Nat.le_trans HB9.out BB1.out.size)))
            clear b1 P1 BB1 RR1 s0 s1 s2
            go_wp2_with fail
            exact ⟨⟨i + 1, by omega, by omega, by go_num, Lib.hid (fun b h1 h2 => by
              by_cases h3 : b = i
              · rw [h3, ← HF.out]; exact hq0
              · exact NI.out b h1 (by omega)), P2, BB2⟩, by simp [intOf]; omega⟩
          | false =>
            have HFI := Lib.hid (show firstR e.g k (R - e.piv.length) e.piv.length = i by rw [HNN.out]; exact firstR_of hni hi NI.out (fun _ => by rw [← HF.out]; exact hq0))
            have HSE := Lib.hid (show stepE R e k = useE e i k by unfold stepE; rw [if_pos (by rw [HNN.out]; exact hnR), HFI.out, if_neg (by omega)])
            refine (impl_isZero f _ _ _ RR1.out).mono ?_
            rw [hq0]
            rintro ee w2 ⟨rfl, b1⟩
            have P2 := Lib.hid (P1.out.below b1)
            have BB2 := Lib.hid (BB1.out.trans (b1.mono (Nat.le_trans HB9.out BB1.out.size)))
            have HUS := Lib.hid (HUH.out p q N cap B R C i k e _ fv xs ps w2 P2.out EO.out HN.out hR hC hil (by rw [HNN.out]; exact hnR) hlt (by rw [← HF.out]; exact hq0) (Nat.le_trans HB9.out BB2.out.size))
            clear b1 P1 BB1 RR1 s0 s1 s2
            have hBw : B ≤ w2.heap.size := Nat.le_trans HB9.out BB2.out.size
            cases hq9 : fineG R C (useE e i k).g with
            | true =>
              rw [hq9] at HUS
              have HQ9 := Lib.hid hq9
              clear hq9
              go_wp2_with fail
              refine (HUS.out).mono ?_
              rintro ee w3 ⟨rfl, hv, b3⟩
              obtain ⟨pv', fv', xs', ps', P3'⟩ := hv (by first | rfl | trivial)
              have P3 := Lib.hid P3'
              have BB3 := Lib.hid (BB2.out.trans b3)
              clear P3' hv b3 P2 BB2 HUS
              have EU := Lib.hid (show ElOk R C (useE e i k) (k + 1) by have h1 := EO.out.step hlt (by rw [HSE.out]; exact HQ9.out); rw [HSE.out] at h1; exact h1)
              go_wp2_with fail
              exact ⟨⟨k + 1, useE e i k, pv', fv', xs', ps', by omega, by go_num, EU, Lib.hid (by
                have h1 := HE.out
                rw [show C - k = (C - (k + 1)) + 1 by omega] at h1
                unfold runE at h1
                rw [show C - (C - (k + 1) + 1) = k by omega, HSE.out, if_pos HQ9.out] at h1
                exact h1), P3, BB3⟩, by simp [intOf]; omega⟩
            | false =>
              rw [hq9] at HUS
              have HZ9 := Lib.hid (show ZF = false by
                rw [HZF.out]
                have h1 := HE.out
                rw [show C - k = (C - (k + 1)) + 1 by omega] at h1
                unfold runE at h1
                rw [show C - (C - (k + 1) + 1) = k by omega, HSE.out, if_neg (by rw [hq9]; intro h; cases h)] at h1
                rw [← h1]; exact hq9)
              obtain rfl : ZF = false := HZ9.out
              clear hq9
              go_wp2_with fail
              refine (HUS.out).mono ?_
              rintro ee w3 ⟨rfl, hv, b3⟩
              have BB3 := Lib.hid (BB2.out.trans b3)
              clear hv b3 P2 BB2 HUS
              go_wp2_with fail
              try rw [Exit.noGoto_ret]
              go_ret
              first | exact ⟨rfl, (fun h => by cases h), BB3.out⟩ | exact ⟨rfl, BB3.out⟩
        · obtain rfl : i = R := by omega
          have heR : ((i : Int) == (i : Int)) = true := by rw [beq_iff_eq]
          have HSE := Lib.hid (show stepE i e k = e by
            unfold stepE
            by_cases hnR : n < i
            · rw [if_pos (by rw [HNN.out]; exact hnR), if_pos (by rw [HNN.out]; exact firstR_of hni (Nat.le_refl _) NI.out (fun h => by omega))]
            · rw [if_neg (by rw [HNN.out]; exact hnR)])
          have HFE := Lib.hid ((fineG_iff EO.out.ok.good).2 EO.out.ok)
          go_wp2_with fail
          exact ⟨⟨k + 1, e, _, fv, xs, ps, by omega, by go_num, Lib.hid EO.out.same, Lib.hid (by
                have h1 := HE.out
                rw [show C - k = (C - (k + 1)) + 1 by omega] at h1
                unfold runE at h1
                rw [show C - (C - (k + 1) + 1) = k by omega, HSE.out, if_pos HFE.out] at h1
                exact h1), P, BB⟩, by simp [intOf]; omega⟩
    · obtain rfl : k = C := by omega
      have HEE := Lib.hid (show e = E by have h1 := HE.out; rw [Nat.sub_self] at h1; exact h1)
      have HEO := Lib.hid ((fineG_iff EO.out.ok.good).2 EO.out.ok)
      have HZ9 := Lib.hid (show ZF = true by rw [HZF.out, ← HEE.out]; exact HEO.out)
      obtain rfl : ZF = true := HZ9.out
      go_wp2_with fail
      try rw [Exit.noGoto_ret]
      go_ret
      first | exact ⟨rfl, fun _ => ⟨_, _, _, _, by rw [← HEE.out]; exact P.out⟩, BB.out⟩ | exact ⟨rfl, ⟨_, _, _, _, by rw [← HEE.out]; exact P.out⟩, BB.out⟩ | exact ⟨⟨_, _, _, _, by rw [← HEE.out]; exact P.out⟩, BB.out⟩
end Go.Proofs.YtlepgkkpopjgoaaGreat
namespace Go.Proofs.YtlepgkkpopjgoaaGreat
open Go.RowKit Go.WideShapes Go.ChangeShapes
set_option linter.unusedVariables false
set_option linter.unusedSimpArgs false
def cpL (L : List Fr) (n k : Nat) : List Fr := L.take k ++ List.replicate (n - k) Fr.zero
theorem cpL_len {L : List Fr} {n k : Nat} (hn : L.length = n) (hk : k ≤ n) : (cpL L n k).length = n := by simp [cpL]; omega
theorem startE_g (L : List Fr) (C : Nat) : startE L C = ⟨elM L C, [], []⟩ := rfl
set_option maxRecDepth 100000 in
set_option maxHeartbeats 8000000 in
theorem impl_eliminateH (HU : ∀ (p q N cap B R C i k : Nat) (e : El) (pv fv : Value) (xs ps : List (Value × Value)) (w : World), PrS w B p (some ⟨q, 0, none⟩) N cap R C e pv fv xs ps → ElOk R C e k → N = R * C → R ≤ 24 → C ≤ 24 → i < R → e.piv.length < R → k < C → nilF (e.g i k) = false → B ≤ w.heap.size →
      Calls Tryz.prog 140 #[.pointer (some ⟨p, 0, none⟩), .int .i64 (i : Int), .int .i64 (k : Int)] w fun r w' => r = .returned (.bool (fineG R C (useE e i k).g)) ∧ (fineG R C (useE e i k).g = true → ∃ pv' fv' xs' ps', PrS w' B p (some ⟨q, 0, none⟩) N cap R C (useE e i k) pv' fv' xs' ps') ∧ Below B w w')
    (R C n cap : Nat) (a : Option Addr) (L : List Fr) (w : World) (h : RatsAt w (.slice a n cap) L) (hL : L.length = n) (hN : n = R * C) (hR : R ≤ 24) (hC : C ≤ 24) (hok : ∀ k (hk : k < L.length), ratOk (L[k]'hk).neg (L[k]'hk).mag (L[k]'hk).den = true) (hall : L.all okF = true) :
    Calls Tryz.prog 58 #[.agg #[.int .i64 (R : Int), .int .i64 (C : Int), .slice a n cap]] w fun r w' => ∃ p, r = .returned (.tuple #[.pointer (some ⟨p, 0, none⟩), .bool (fineG R C (runE R C C (startE L C)).g)]) ∧ (fineG R C (runE R C C (startE L C)).g = true → ∃ g pv fv xs ps, PrS w' w.heap.size p (some ⟨g, 0, none⟩) n n R C (runE R C C (startE L C)) pv fv xs ps) ∧ Below w.heap.size w w' := by
  have hRC : R * C ≤ 24 * 24 := Nat.mul_le_mul hR hC
  have hN9 : n ≤ 576 := by omega
  have HN := Lib.hid hN
  have HL := Lib.hid hL
  have HR := Lib.hid h
  have HOK := Lib.hid hok
  have HFH := Lib.hid (fun p a xs (W : World) (hP : PrS W w.heap.size p a n n R C (startE L C) (.slice none 0 0) (.slice none 0 0) xs []) (hB : w.heap.size ≤ W.heap.size) => impl_finishH HU p n n w.heap.size R C a (startE L C) _ _ xs [] W hP (start_ok (by rw [hL]; exact hN) hall) hN hR hC hB)
  obtain ⟨E, hE⟩ : ∃ E, E = runE R C C (startE L C) := ⟨_, rfl⟩
  rw [← hE] at HFH ⊢
  obtain ⟨ZF, hZF⟩ : ∃ z, z = fineG R C E.g := ⟨_, rfl⟩
  rw [← hZF] at HFH ⊢
  obtain ⟨a0, c0, e9, hcap1, hcap2, hr⟩ := h
  injection e9 with z1 z2 z3
  subst z1 z3
  have HRR := Lib.hid hr
  unfold maxLen at hcap2
  rw [hL] at hcap1
  clear hE hZF hL hN hok hRC HU hall hr z2
  obtain ⟨hh, hhh⟩ : ∃ x, x = w.heap.size := ⟨_, rfl⟩
  have HH := Lib.hid hhh
  obtain ⟨W0, hW0⟩ : ∃ x, x = w.alloc (.cells #[.int .i64 (R : Int), .int .i64 (C : Int), .slice a n cap] 25) := ⟨_, rfl⟩
  have D0 := Lib.hid (show B3 W0 hh 25 (.int .i64 (R : Int)) (.int .i64 (C : Int)) (.slice a n cap) by rw [hW0, hhh]; exact B3.new _ _ _ _ _)
  have B0 := Lib.hid (show Below w.heap.size w W0 by rw [hW0]; exact (Below.refl _ _).alloc (Nat.le_refl _) _)
  have hs0 : W0.heap.size = hh + 1 := by rw [hW0, hhh]; simp
  have HW := Lib.hid hW0.symm
  have ZM := Lib.hid (fun W => make_rats n (by omega) W)
  clear hhh hW0
  go_enter Tryz.func58, Tryz.ntmps58
  go_upto_region 1 with (rw [HW.out])
  rw [← HH.out]
  have HS := Lib.hid (show ∀ W : World, Below W0.heap.size W0 W → (W.cell? ⟨hh, 0, none⟩ = some (.int .i64 (R : Int)) ∧ W.cell? ⟨hh, 1, none⟩ = some (.int .i64 (C : Int)) ∧ W.cell? ⟨hh, 2, none⟩ = some (.slice a n cap)) from fun W hW => ⟨(D0.out.below hW).c0, (D0.out.below hW).c1, (D0.out.below hW).c2⟩)
  have d0 := D0.out.c0
  have d1 := D0.out.c1
  have d2 := D0.out.c2
  replace ZM := ZM.out
  go_region_held3 (fun w' => w'.cell? ⟨hh, 0, none⟩ = some (.int .i64 (R : Int)) ∧ w'.cell? ⟨hh, 1, none⟩ = some (.int .i64 (C : Int)) ∧ w'.cell? ⟨hh, 2, none⟩ = some (.slice a n cap))
    (exact HS.out _ (by first | with_reducible exact Below.refl _ _ | with_reducible exact (Below.refl _ _).drew | with_reducible exact (Below.refl _ _).alloc (Nat.le_refl _) _ | with_reducible exact ((Below.refl _ _).alloc (Nat.le_refl _) _).drew | with_reducible exact ((Below.refl _ _).alloc (Nat.le_refl _) _).alloc (by simp) _ | with_reducible exact (((Below.refl _ _).alloc (Nat.le_refl _) _).alloc (by simp) _).drew | fail))
    (first | fail | fail)
  obtain ⟨W1, hW1⟩ : ∃ x, x = ((W0.alloc (zeroV n)).alloc (.cells #[.int .i64 (R : Int), .int .i64 (C : Int), .slice (some ⟨hh + 1, 0, none⟩) n n, .slice none 0 0, .slice none 0 0] 79)).drew := ⟨_, rfl⟩
  have b1 := (show Below W0.heap.size W0 W1 by rw [hW1]; exact (((Below.refl _ _).alloc (Nat.le_refl _) _).alloc (by simp) _).drew)
  have D1 := Lib.hid (D0.out.below b1)
  have P1 := Lib.hid (show ∃ xs, PrS W1 w.heap.size (hh + 1 + 1) (some ⟨hh + 1, 0, none⟩) n n R C (startE (cpL L n 0) C) (.slice none 0 0) (.slice none 0 0) xs [] by
    have hV := zeroV_own W0 w.heap.size n (by rw [← HH.out]; omega) (by omega)
    rw [hs0] at hV
    have hlt := hV.lt
    have hsz : (W0.alloc (zeroV n)).heap.size = hh + 1 + 1 := by simp [hs0]
    have eL : tabM R C (elM (cpL L n 0) C) = List.replicate n Fr.zero := by
      rw [tabM_self (by rw [cpL_len HL.out (Nat.zero_le _)]; exact HN.out)]
      simp [cpL]
    refine ⟨List.replicate n (Value.slice none 0 0, Value.slice none 0 0), ⟨?_, ⟨?_, OwnI.nil _ _, World.ownsRow_nil _ _ _ _, rfl, fun i hi => by simp [startE] at hi, fun q hq => by simp at hq, fun k hk e => by simp [Value.ownBlock] at e, fun k hk e => by simp [Value.ownBlock] at e, fun k e => by simp [Value.ownBlock] at e, fun q hq => by simp at hq⟩, ?_, by rw [← HH.out]; omega⟩⟩
    · rw [hW1]
      have h9 := B5.new (W0.alloc (zeroV n)) 79 (.int .i64 (R : Int)) (.int .i64 (C : Int)) (.slice (some ⟨hh + 1, 0, none⟩) n n) (.slice none 0 0) (.slice none 0 0)
      rw [hsz] at h9
      exact h9.drew
    · rw [startE_g]
      show OwnV W1 _ _ (tabM R C (elM (cpL L n 0) C)) _
      rw [eL, hW1]
      exact (hV.alloc _).drew
    · rintro k (h1 | h1 | h1 | ⟨q, hq, h1⟩)
      · have := (hlt k h1).2; omega
      · simp [Value.ownBlock] at h1
      · simp [Value.ownBlock] at h1
      · simp at hq)
  have B1 := Lib.hid (B0.out.trans (b1.mono B0.out.size))
  have hs1 : W1.heap.size = hh + 1 + 1 + 1 := by rw [hW1]; show ((W0.alloc (zeroV n)).alloc _).heap.size = _; simp [hs0]
  have HW1 := Lib.hid hW1.symm
  clear hW1 b1 ZM HS d0 d1 d2
  have d0 := D1.out.c0
  have d1 := D1.out.c1
  have d2 := D1.out.c2
  go_wp2_with (rw [HW1.out])
  go_loopw [21] (fun cv wr => ∃ (k : Nat) (xs : List (Value × Value)), k ≤ n ∧ cv = .int .i64 k ∧ Hid (PrS wr w.heap.size (hh + 1 + 1) (some ⟨hh + 1, 0, none⟩) n n R C (startE (cpL L n k) C) (.slice none 0 0) (.slice none 0 0) xs []) ∧ Hid (Below w.heap.size w wr)) (fun cv _ => n - (intOf cv).toNat)
  case atStart =>
    obtain ⟨xs, hx⟩ := P1.out
    exact ⟨0, xs, Nat.zero_le _, rfl, Lib.hid hx, B1⟩
  case round =>
    clear P1 B1 D1 d0 d1 d2
    obtain ⟨k, xs, hk, rfl, P, BB⟩ := hrel
    by_cases hlt : k < n
    · have hltL : k < L.length := by rw [HL.out]; exact hlt
      obtain ⟨b, o, x, y, rfl, c0', c1', c2', hrr⟩ := HRR.out k hltL
      have s0 := (BB.out.cell (World.block_lt_of_cell? w _ c0')).trans c0'
      have s1 := (BB.out.cell (World.block_lt_of_cell? w _ c1')).trans c1'
      have s2 := (BB.out.cell (World.block_lt_of_cell? w _ c2')).trans c2'
      have HOF := Lib.hid (HOK.out k hltL)
      obtain ⟨f, hf⟩ : ∃ f, f = L[k]'hltL := ⟨_, rfl⟩
      rw [← hf] at s0 hrr HOF
      have HF := Lib.hid hf
      obtain ⟨a1, r1, a3, r3, rfl, rfl, hz1, hz2⟩ := rowR_len hrr
      have RR := Lib.hid (hrr.below BB.out)
      clear hf c0' c1' c2' hrr
      go_upto_region 5 with fail
      obtain ⟨p6, hp6⟩ : ∃ x, x = wr.heap.size := ⟨_, rfl⟩
      obtain ⟨W5, hW5⟩ : ∃ x, x = wr.alloc (.cells #[.bool f.neg, .slice a1 f.mag.length r1, .slice a3 f.den.length r3] 34) := ⟨_, rfl⟩
      have b5 := (show Below wr.heap.size wr W5 by rw [hW5]; exact (Below.refl _ _).alloc (Nat.le_refl _) _)
      have F6 := Lib.hid (show B3 W5 p6 34 (.bool f.neg) (.slice a1 f.mag.length r1) (.slice a3 f.den.length r3) by rw [hW5, hp6]; exact B3.new _ _ _ _ _)
      have P5 := Lib.hid (P.out.below b5)
      have R5 := Lib.hid (RR.out.below b5)
      have hBw : w.heap.size ≤ W5.heap.size := Nat.le_trans BB.out.size b5.size
      have BB5 := Lib.hid (BB.out.trans (b5.mono BB.out.size))
      have hpp : hh + 1 + 1 < p6 := by rw [hp6]; exact P.out.D.lt
      rw [← hW5, ← hp6]
      clear hW5 hp6 b5 s0 s1 s2 P BB RR
      have HCL := Lib.hid (fun W (hW : Below W5.heap.size W5 W) => (impl_cloneF f HOF.out _ _ W (R5.out.below hW)).mono (R' := fun e w' => ∃ a c d b, e = .returned (.agg #[.bool f.neg, .slice a f.mag.length c, .slice d f.den.length b]) ∧ OwnR w' W5.heap.size (.slice a f.mag.length c) f.mag (.slice d f.den.length b) f.den ∧ Below W5.heap.size W5 w') (fun e w' ⟨u, v, he, ho, hb⟩ => by
        obtain ⟨a, c, d, b, rfl, rfl⟩ := ho.slices
        exact ⟨a, c, d, b, he, ho.base hW.size, hW.trans (hb.mono hW.size)⟩))
      have hlt3 : k < (tabM R C (elM (cpL L n k) C)).length := by rw [tabM_len, ← HN.out]; exact hlt
      have VH := Lib.hid (fun W (hW : Below W5.heap.size W5 W) => (show OwnV W5 _ _ (tabM R C (elM (cpL L n k) C)) xs from P5.out.S.V).below hW)
      have HT := Lib.hid (show ∀ W : World, Below W5.heap.size W5 W → ((∃ u0, W.cell? ⟨hh + 1, k * 3, none⟩ = some u0) ∧ (∃ u1, W.cell? ⟨hh + 1, k * 3 + 1, none⟩ = some u1) ∧ (∃ u2, W.cell? ⟨hh + 1, k * 3 + 2, none⟩ = some u2)) ∧ W.frozen? ⟨hh + 1, k * 3, none⟩ = false ∧ W.frozen? ⟨hh + 1, k * 3 + 1, none⟩ = false ∧ W.frozen? ⟨hh + 1, k * 3 + 2, none⟩ = false from fun W hW => by
        have OK := VH.out W hW
        obtain ⟨s0, s1, s2⟩ := OK.cells k hlt3 (by rw [OK.len]; exact hlt3)
        exact ⟨⟨⟨_, s0⟩, ⟨_, s1⟩, ⟨_, s2⟩⟩, OK.frozen _, OK.frozen _, OK.frozen _⟩)
      have HS := Lib.hid (show ∀ W : World, Below W5.heap.size W5 W → (W.cell? ⟨hh + 1 + 1, 2, none⟩ = some (.slice (some ⟨hh + 1, 0, none⟩) n n) ∧ W.cell? ⟨p6, 0, none⟩ = some (.bool f.neg) ∧ W.cell? ⟨p6, 1, none⟩ = some (.slice a1 f.mag.length r1) ∧ W.cell? ⟨p6, 2, none⟩ = some (.slice a3 f.den.length r3)) from fun W hW => ⟨(P5.out.D.below hW).c2, (F6.out.below hW).c0, (F6.out.below hW).c1, (F6.out.below hW).c2⟩)
      have d2 := P5.out.D.c2
      have f0 := F6.out.c0
      have f1 := F6.out.c1
      have f2 := F6.out.c2
      have x1 : (0 : Int) ≤ (k : Int) := by omega
      have x2 : (k : Int) < (n : Int) := by omega
      go_region_held3 (fun w' => w'.cell? ⟨hh + 1 + 1, 2, none⟩ = some (.slice (some ⟨hh + 1, 0, none⟩) n n) ∧ w'.cell? ⟨p6, 0, none⟩ = some (.bool f.neg) ∧ w'.cell? ⟨p6, 1, none⟩ = some (.slice a1 f.mag.length r1) ∧ w'.cell? ⟨p6, 2, none⟩ = some (.slice a3 f.den.length r3))
        (first | exact HS.out _ (by first | with_reducible exact Below.refl _ _ | with_reducible exact (Below.refl _ _).drew | with_reducible exact bb_a | fail) | exact ⟨(cell_farq (show hh + 1 + 1 ≠ hh + 1 from by omega) _ _ _).trans ((HS.out _ (by first | with_reducible exact Below.refl _ _ | with_reducible exact (Below.refl _ _).drew | with_reducible exact bb_a | fail)).1), (cell_farq (show p6 ≠ hh + 1 from by omega) _ _ _).trans ((HS.out _ (by first | with_reducible exact Below.refl _ _ | with_reducible exact (Below.refl _ _).drew | with_reducible exact bb_a | fail)).2.1), (cell_farq (show p6 ≠ hh + 1 from by omega) _ _ _).trans ((HS.out _ (by first | with_reducible exact Below.refl _ _ | with_reducible exact (Below.refl _ _).drew | with_reducible exact bb_a | fail)).2.2.1), (cell_farq (show p6 ≠ hh + 1 from by omega) _ _ _).trans ((HS.out _ (by first | with_reducible exact Below.refl _ _ | with_reducible exact (Below.refl _ _).drew | with_reducible exact bb_a | fail)).2.2.2)⟩)
        (first
          | (go_at_call 102; refine (HCL.out _ (by first | with_reducible exact Below.refl _ _ | with_reducible exact (Below.refl _ _).drew | with_reducible exact bb_a | fail)).mono ?_; rintro ee w_a ⟨a_s, c_s, d_s, b_s, rfl, o_s, bb_a⟩; obtain ⟨⟨⟨v0, t0⟩, ⟨v1, t1⟩, ⟨v2, t2⟩⟩, t3, t4, t5⟩ := HT.out _ bb_a))
      all_goals (have lr := o_s.lt)
      all_goals (have L9 := P5.out.S.V.lt)
      all_goals (have VF := (VH.out _ bb_a).set3 k f _ _ hlt3 (OwnR.base o_s hBw) (fun a ha _ r r' e1 e2 => by have h3 := (L9 r (.inr ⟨_, List.getElem_mem ha, e1⟩)).2; have h4 := (lr r' e2).1; omega) (fun r e2 => by have h4 := (lr r e2).1; have := (L9 (hh + 1) (.inl rfl)).2; omega))
      all_goals (have KF := ((kept_set w_a (hh + 1) (k * 3) (.bool f.neg)).trans (kept_set _ (hh + 1) (k * 3 + 1) (.slice a_s f.mag.length c_s))).trans (kept_set _ (hh + 1) (k * 3 + 2) (.slice d_s f.den.length b_s)))
      all_goals (have WB := (Kept.of_below (S := fun j => j = hh + 1) bb_a).trans KF)
      all_goals (rw [tabM_self (by rw [cpL_len HL.out hk]; exact HN.out), show (cpL L n k).set k f = tabM R C (elM (cpL L n (k + 1)) C) by rw [tabM_self (by rw [cpL_len HL.out (by omega)]; exact HN.out), HF.out]; exact take_set HL.out hlt] at VF)
      all_goals (have PF := Lib.hid (P5.out.cells VF WB (fun b hb => .inl (by rw [hb]; rfl)) (onV_set (n := W5.heap.size) (fun r e2 => (lr r e2).1))))
      all_goals (have BF := Lib.hid (((((BB5.out.trans (bb_a.mono hBw))).setCell (p := ⟨hh + 1, k * 3, none⟩) (by show w.heap.size ≤ hh + 1; rw [← HH.out]; omega) (.bool f.neg)).setCell (p := ⟨hh + 1, k * 3 + 1, none⟩) (by show w.heap.size ≤ hh + 1; rw [← HH.out]; omega) (.slice a_s f.mag.length c_s)).setCell (p := ⟨hh + 1, k * 3 + 2, none⟩) (by show w.heap.size ≤ hh + 1; rw [← HH.out]; omega) (.slice d_s f.den.length b_s)))
      all_goals clear VF KF WB HT HS HCL VH o_s t0 t1 t2 t3 t4 t5 bb_a d2 f0 f1 f2 lr L9
      all_goals go_wp2_with fail
      all_goals exact ⟨⟨k + 1, _, by omega, by go_num, PF, BF⟩, by simp [intOf]; omega⟩
    · obtain rfl : k = n := by omega
      have PE := Lib.hid (show PrS wr w.heap.size (hh + 1 + 1) (some ⟨hh + 1, 0, none⟩) k k R C (startE L C) (.slice none 0 0) (.slice none 0 0) xs [] by
        have h9 := P.out
        have e9 : cpL L k k = L := by unfold cpL; rw [Nat.sub_self, List.replicate_zero, List.append_nil, ← HL.out, List.take_length]
        rw [e9] at h9
        exact h9)
      have HFI := Lib.hid (HFH.out _ _ _ wr PE.out BB.out.size)
      clear HFH P
      go_wp2_with fail
      refine (HFI.out).mono ?_
      rintro ee w2 ⟨rfl, hv, b2⟩
      have HV := Lib.hid hv
      have B2 := Lib.hid (BB.out.trans b2)
      clear hv b2 HFI
      go_wp2_with fail
      exact bodyPost_ret (v := .tuple #[.pointer (some ⟨hh + 1 + 1, 0, none⟩), .bool ZF]) (by simp [results, Tryz.results58, go_sem]) rfl ⟨_, rfl, (fun h => by obtain ⟨a, b, c, d, h9⟩ := HV.out h; exact ⟨_, a, b, c, d, h9⟩), B2.out⟩
end Go.Proofs.YtlepgkkpopjgoaaGreat
namespace Go.Proofs.YtlepgkkpopjgoaaGreat
open Go.RowKit Go.WideShapes Go.ChangeShapes Go.Shelf
set_option linter.unusedVariables false
set_option linter.unusedSimpArgs false
attribute [local go_sem] Oper.semAt_some
theorem boxed_at {w : World} {p r : Nat} {t : TypeId} {v : Value} (h : Boxed w p t v) (e : r = p) : Boxed w r t v := by rw [e]; exact h
theorem boxed_belowU {w w' : World} {p : Nat} {t : TypeId} {v : Value} (h : Boxed w p t v) (hb : Below w.heap.size w w') : Boxed w' p t v := (hb.block p h.lt).trans h
theorem boxed_keptK {w w' : World} {S : Nat → Prop} {p : Nat} {t : TypeId} {v : Value} (h : Boxed w p t v) (hk : Kept S w w') (hn : ¬ S p) : Boxed w' p t v := (hk.block p h.lt hn).trans h
theorem wp_blind {P : Program} {c : Code} {K : Act → World → Prop} {Q : Exit → Act → World → Prop} {a : Act} {w : World} (h : Code.wp P c (Exit.then K (fun _ _ _ => False)) a w) : Code.wp P c (Exit.then K Q) a w :=
 Code.wp_mono (fun e a w h => by cases e <;> first | exact h | exact h.elim) h
theorem grown_drew {w w' : World} {r : Option Nat} (h : w.drew.grownBy w' r) : w.grownBy w' r := ⟨h.os, h.tape, h.output, h.size, h.block⟩
theorem fg_ne {pv : Value} {hh fg s : Nat} {w' : World} (h : ∀ j, pv.ownBlock = some j → j < hh) (hq : pv.ownBlock = some fg ∨ fg = s) (hs : hh + 1 + 1 < s) : fg < hh ∨ hh + 1 + 1 < fg := by
 rcases hq with h9 | h9
 ·exact .inl (h fg h9)
 ·right; omega
theorem cell_farb {w : World} {p k j o : Nat} (h : k ≠ p) (u : Value) : (w.setCell ⟨p, o, none⟩ u).cell? ⟨k, j, none⟩ = w.cell? ⟨k, j, none⟩ := World.cell?_of_block (a := ⟨k, j, none⟩) (Below.heap_setCell _ ⟨p, o, none⟩ u k h)
theorem range_snoc {R : Nat} {pre : List (RowA R)} {y : RowA R} (h : (pre ++ [y]).map rix = List.range (pre ++ [y]).length) : pre.map rix = List.range pre.length ∧ rix y = pre.length := by
 rw [List.length_append, List.length_singleton, List.range_succ, List.map_append, List.map_singleton] at h
 have h1 := List.append_inj h (by simp)
 exact ⟨h1.1, by simpa using h1.2⟩
theorem rowOf_box {w : World} {b : Nat} {t : TypeId} {x : Bool} {u v : Value} {l : List Int} (h : RowOf iV w v l) (hb : Boxed w b t (.bool x)) : RowOf iV (w.setCell ⟨b, 0, none⟩ u) v l := by
 obtain ⟨a, cap, rfl, h1, h2, h3⟩ := h
 refine ⟨a, cap, rfl, h1, h2, fun i hi => ?_⟩
 obtain ⟨c, o, rfl, hc⟩ := h3 i hi
 refine ⟨c, o, rfl, ?_⟩
 by_cases e : c = b
 ·subst e
  exfalso
  have hb' : w.heap[c]? = some (.cells #[.bool x] t (0, 0)) := hb
  unfold World.cell? at hc
  rw [hb'] at hc
  cases hoi : o + i with
  | zero => rw [hoi] at hc; simp [iV] at hc
  | succ m => rw [hoi] at hc; simp [iV] at hc
 ·exact (World.cell?_of_block (a := ⟨c, o + i, none⟩) (Below.heap_setCell _ ⟨b, 0, none⟩ u c e)).trans hc
theorem PrS.setB {w : World} {B p b : Nat} {a : Option Addr} {N cap R C : Nat} {e : El} {pv fv : Value} {xs ps : List (Value × Value)} {t : TypeId} {x : Bool} (h : PrS w B p a N cap R C e pv fv xs ps) (hb : Boxed w b t (.bool x)) (h1 : t ≠ 34) (h2 : t ≠ 3) (h3 : t ≠ 79) (u : Value) : PrS (w.setCell ⟨b, 0, none⟩ u) B p a N cap R C e pv fv xs ps := by
 have hb' : w.heap[b]? = some (.cells #[.bool x] t (0, 0)) := hb
 have key : ∀ {s : Nat} {t' : TypeId} {v' : Value} {n : Nat} {l : List Value}, t ≠ t' → w.ownsRow B t' s v' n l → ∀ k, v'.ownBlock = some k → k ≠ b := by
  intro s t' v' n l ht ho k e9 ek
  subst ek
  rcases ho.2 with ⟨rfl, _⟩ | ⟨g1, cap1, cur1, rfl, _, hg1, _⟩
  ·simp [Value.ownBlock] at e9
  ·have e1 : g1 = k := by simpa [Value.ownBlock] using e9
   subst e1
   rw [hb'] at hg1
   injection hg1 with hg1
   injection hg1 with _ h3 _
   exact ht h3
 have hk := kept_set w b 0 u
 have hV : ∀ k, OnV (.slice a N cap) xs k → k ≠ b := by
  rintro k (e9 | ⟨q, hq, e9⟩)
  ·exact key h1 h.S.V.row k e9
  ·obtain ⟨i, hi, rfl⟩ := List.getElem_of_mem hq
   have hr := h.S.V.each i (by have := h.S.V.len; omega) hi
   rcases e9 with e9 | e9
   ·exact key h2 hr.1 k e9
   ·exact key h2 hr.2.1 k e9
 have hpb : p ≠ b := by
  intro e9
  subst e9
  have hd : w.heap[p]? = some (.cells #[.int .i64 (R : Int), .int .i64 (C : Int), .slice a N cap, pv, fv] 79 (0, 0)) := h.D
  rw [hb'] at hd
  injection hd with hd
  injection hd with _ h9 _
  exact h3 h9
 exact ⟨h.D.keptK hk hpb, ⟨h.S.V.kept hk hV, h.S.P.kept hk (key h2 h.S.P), rowV_kept h.S.F hk (key h1 h.S.F), h.S.plen, fun i hi hi' => ⟨rowOf_box (h.S.fr i hi hi').1 hb, rowOf_box (h.S.fr i hi hi').2 hb⟩, fun q hq k e9 => Nat.lt_of_lt_of_le (h.S.lt q hq k e9) hk.size, h.S.vp, h.S.vf, h.S.pf, h.S.qv⟩, h.off, h.hB⟩
theorem wpIn_blind {F : Fence} {n : Nat} {P : Program} {c : Code} {K : Act → World → Prop} {Q : Exit → Act → World → Prop} {a : Act} {w : World} (h : Code.wpIn F n P c (Exit.then K (fun _ _ _ => False)) a w) : Code.wpIn F n P c (Exit.then K Q) a w :=
 Code.wpIn_mono (fun e a w h => by cases e <;> first | exact h | exact h.elim) h
set_option maxRecDepth 200000 in
set_option maxHeartbeats 16000000 in
theorem impl_use (p q N cap B R C i k : Nat) (e : El) (pv fv : Value) (xs ps : List (Value × Value)) (w : World) (h : PrS w B p (some ⟨q, 0, none⟩) N cap R C e pv fv xs ps) (EO : ElOk R C e k) (hN : N = R * C) (hR : R ≤ 24) (hC : C ≤ 24) (hi : i < R) (hn : e.piv.length < R) (hk : k < C) (hp : nilF (e.g i k) = false) (hB : B ≤ w.heap.size) :
    Calls Tryz.prog 140 #[.pointer (some ⟨p, 0, none⟩), .int .i64 (i : Int), .int .i64 (k : Int)] w fun r w' => r = .returned (.bool (fineG R C (useE e i k).g)) ∧ (fineG R C (useE e i k).g = true → ∃ pv' fv' xs' ps', PrS w' B p (some ⟨q, 0, none⟩) N cap R C (useE e i k) pv' fv' xs' ps') ∧ Below B w w' := by
  obtain ⟨ZF, hZF⟩ : ∃ z, z = fineG R C (useE e i k).g := ⟨_, rfl⟩
  rw [← hZF]
  have HZF := Lib.hid hZF
  clear hZF
  have hRC : R * C ≤ 24 * 24 := Nat.mul_le_mul hR hC
  have hN9 : N ≤ 576 := by omega
  have HN := Lib.hid hN
  have HB9 := Lib.hid hB
  have HEO := Lib.hid EO
  have HPV := Lib.hid hp
  have hfl := EO.count
  obtain ⟨n, hn0⟩ : ∃ n, e.piv.length = n := ⟨_, rfl⟩
  have HN0 := Lib.hid hn0
  rw [hn0] at hn
  have hpl := h.D.lt
  have hcap : N ≤ cap ∧ cap ≤ 9223372036854775807 := by
    obtain ⟨a9, c9, e9, z1, z2⟩ := ratsAt_form h.S.V.rats
    injection e9 with e1 e2 e3
    have := h.S.V.count
    omega
  obtain ⟨pa, pc, hpv⟩ := h.S.P.slice
  rw [natV_len, hn0] at hpv
  subst hpv
  obtain ⟨hh, hhh⟩ : ∃ x, x = w.heap.size := ⟨_, rfl⟩
  have HH := Lib.hid hhh
  obtain ⟨W0, hW0⟩ : ∃ x, x = ((w.alloc (.cells #[.int .i64 (k : Int)] 3)).alloc (.cells #[.bool false] 4)).alloc (.cells #[.int .i64 (n : Int)] 3) := ⟨_, rfl⟩
  have b0 : Below w.heap.size w W0 := by rw [hW0]; exact (((Below.refl _ _).alloc (Nat.le_refl _) _).alloc (by simp) _).alloc (by simp; omega) _
  have K5 := Lib.hid (show Boxed W0 hh 3 (.int .i64 (k : Int)) by rw [hW0, hhh]; exact ((Boxed.new _ _ _).alloc _).alloc _)
  have K6 := Lib.hid (show Boxed W0 (hh + 1) 4 (.bool false) by rw [hW0, hhh]; exact boxed_at ((Boxed.new _ _ _).alloc _) (by simp))
  have K7 := Lib.hid (show Boxed W0 (hh + 1 + 1) 3 (.int .i64 (n : Int)) by rw [hW0, hhh]; exact boxed_at (Boxed.new _ _ _) (by simp))
  have P0 := Lib.hid (h.below b0)
  have BB0 := Lib.hid (b0.mono hB)
  have hs0 : W0.heap.size = hh + 1 + 1 + 1 := by rw [hW0, hhh]; simp
  have HW := Lib.hid hW0.symm
  have d3 := h.D.c3
  have d3' := ((h.below ((Below.refl _ _).alloc (Nat.le_refl _) (.cells #[.int .i64 (k : Int)] 3))).below ((Below.refl _ _).alloc (Nat.le_refl _) (.cells #[.bool false] 4))).D.c3
  have hp9 : p < hh := by omega
  have hqh : q < hh := by rw [hhh]; exact (h.S.V.lt q (.inl rfl)).2
  have FVL := Lib.hid (show ∀ j, fv.ownBlock = some j → j < hh from fun j hj => by rw [hhh]; exact h.S.lt_all j (.inr (.inr (.inl hj))))
  have PVL := Lib.hid (show ∀ j, (Value.slice pa n pc).ownBlock = some j → j < hh from fun j hj => by rw [hhh]; exact h.S.lt_all j (.inr (.inl hj)))
  have hB' : B ≤ hh := by omega
  clear h EO hp hN hRC hW0 hn0 hB hpl b0 d3 hhh
  refine (callsIn_wide (n := 3)).1 ?_
  refine callsIn_of_wp_marks Tryz.func140 rfl trivial ?_ rfl
  simp only [Tryz.ntmps140, List.size_toArray, List.length_cons, List.length_nil, Nat.reduceAdd, Nat.reduceSub, Array.replicate_succ, Array.replicate_zero, List.push_toArray, List.append_toArray, List.nil_append, List.cons_append]
  refine wpIn_wide.2 ?_
  go_upto_region 2 with (rw [HW.out])
  rw [← HH.out]
  have DH := Lib.hid (fun W (hW : Below W0.heap.size W0 W) => P0.out.D.below hW)
  have TS0 := Lib.hid (show (ElS (W0.alloc (.cells #[.int .i64 (k : Int)] 3)) B (.slice (some ⟨q, 0, none⟩) N cap) R C e (.slice pa n pc) fv xs ps ∧ B ≤ (W0.alloc (.cells #[.int .i64 (k : Int)] 3)).heap.size ∧ (∀ j y, [Value.int .i64 (k : Int)][j]? = some y → (W0.alloc (.cells #[.int .i64 (k : Int)] 3)).cell? ((⟨hh + 1 + 1 + 1, 0, none⟩ : Addr).add j) = some y) ∧ B5 (W0.alloc (.cells #[.int .i64 (k : Int)] 3)) p 79 (.int .i64 (R : Int)) (.int .i64 (C : Int)) (.slice (some ⟨q, 0, none⟩) N cap) (.slice pa n pc) fv) from ⟨P0.out.S.alloc _, by simp; omega, by rw [← hs0]; exact cell_one_new _ _ _, P0.out.D.alloc _⟩)
  have TS1 := Lib.hid (show (ElS (W0.alloc (.cells #[.int .i64 (k : Int)] 3)).drew B (.slice (some ⟨q, 0, none⟩) N cap) R C e (.slice pa n pc) fv xs ps ∧ B ≤ (W0.alloc (.cells #[.int .i64 (k : Int)] 3)).drew.heap.size ∧ (∀ j y, [Value.int .i64 (k : Int)][j]? = some y → (W0.alloc (.cells #[.int .i64 (k : Int)] 3)).drew.cell? ((⟨hh + 1 + 1 + 1, 0, none⟩ : Addr).add j) = some y) ∧ B5 (W0.alloc (.cells #[.int .i64 (k : Int)] 3)).drew p 79 (.int .i64 (R : Int)) (.int .i64 (C : Int)) (.slice (some ⟨q, 0, none⟩) N cap) (.slice pa n pc) fv) from ⟨TS0.out.1.drew, TS0.out.2.1, TS0.out.2.2.1, TS0.out.2.2.2.drew⟩)
  have HPL := Lib.hid (show e.piv.length ≤ 100000 by rw [HN0.out]; omega)
  have OFP := Lib.hid (fun e9 => P0.out.off p (.inr (.inl e9)) rfl)
  have k5 := K5.out.cell
  have s3 := P0.out.D.c3
  have s4 := P0.out.D.f 3
  clear d3'
  have d3a := TS0.out.2.2.2.c3
  have K5a := (K5.out.alloc (.cells #[.int .i64 (k : Int)] 3)).cell
  go_cut [] from 19 (fun wc => (∃ fg fn fc, (fg < hh ∨ hh + 1 + 1 < fg) ∧ Hid (PrS wc B p (some ⟨q, 0, none⟩) N cap R C ⟨e.g, e.piv ++ [k], e.fac⟩ (.slice (some ⟨fg, 0, none⟩) fn fc) fv xs ps)) ∧ Hid (Boxed wc hh 3 (.int .i64 (k : Int))) ∧ Hid (Boxed wc (hh + 1) 4 (.bool false)) ∧ Hid (Boxed wc (hh + 1 + 1) 3 (.int .i64 (n : Int))) ∧ Hid (Below B w wc) ∧ hh + 1 + 1 < wc.heap.size)
  case first =>
    refine wp_blind ?_
    go_region_law (first
      | (refine step_append_piv rfl _ _ rfl rfl TS1.out.1 HPL.out TS1.out.2.1 _ k rfl TS1.out.2.2.1 ?_; intro fg fn fc w_n S_n g_d q_d; have g_n : (W0.alloc (.cells #[.int .i64 (k : Int)] 3)).grownBy w_n (Value.slice pa n pc).ownBlock := grown_drew g_d; have q_n : (Value.slice pa n pc).ownBlock = some fg ∨ fg = (W0.alloc (.cells #[.int .i64 (k : Int)] 3)).heap.size := q_d; clear g_d q_d; have D5 := (TS0.out.2.2.2).keptK (Kept.of_grown g_n) OFP.out; have s3 := D5.c3; have s4 := D5.f 3)
      | (refine step_append_piv rfl _ _ rfl rfl TS0.out.1 HPL.out TS0.out.2.1 _ k rfl TS0.out.2.2.1 ?_; intro fg fn fc w_n S_n g_d q_d; have g_n : (W0.alloc (.cells #[.int .i64 (k : Int)] 3)).grownBy w_n (Value.slice pa n pc).ownBlock := g_d; have q_n : (Value.slice pa n pc).ownBlock = some fg ∨ fg = (W0.alloc (.cells #[.int .i64 (k : Int)] 3)).heap.size := q_d; clear g_d q_d; have D5 := (TS0.out.2.2.2).keptK (Kept.of_grown g_n) OFP.out; have s3 := D5.c3; have s4 := D5.f 3)
      | fail)
    all_goals (have hbt := (show Below W0.heap.size W0 (W0.alloc (.cells #[.int .i64 (k : Int)] 3)) from (Below.refl _ _).alloc (Nat.le_refl _) _))
    all_goals (have KT := (Kept.of_below (S := fun j => j = p ∨ (Value.slice pa n pc).ownBlock = some j) hbt).trans (((Kept.of_grown g_n).mono (fun j e => .inr e)).trans ((kept_set w_n p 3 (.slice (some ⟨fg, 0, none⟩) fn fc)).mono (fun j e => .inl e))))
    all_goals (have hfg := fg_ne (w' := w) PVL.out q_n (by simp; omega))
    all_goals (have hfp : fg ≠ p := by
      { rcases q_n with h9 | h9
        · exact P0.out.off fg (.inr (.inl h9))
        · simp at h9; omega })
    all_goals (have PF := Lib.hid (P0.out.addedP S_n D5 hfp))
    all_goals (have X5 := Lib.hid (boxed_keptK K5.out KT (fun e9 => e9.elim (fun h9 => by omega) (fun h9 => by have := PVL.out _ h9; omega))))
    all_goals (have X6 := Lib.hid (boxed_keptK K6.out KT (fun e9 => e9.elim (fun h9 => by omega) (fun h9 => by have := PVL.out _ h9; omega))))
    all_goals (have X7 := Lib.hid (boxed_keptK K7.out KT (fun e9 => e9.elim (fun h9 => by omega) (fun h9 => by have := PVL.out _ h9; omega))))
    all_goals (have BF := Lib.hid (((BB0.out.alloc (by omega) (.cells #[.int .i64 (k : Int)] 3)).grown g_n (by simp; omega) (fun b hb => (P0.out.S.P.lt b hb).1)).setCell (p := ⟨p, 3, none⟩) P0.out.hB (.slice (some ⟨fg, 0, none⟩) fn fc)))
    all_goals (have hsz := KT.size)
    all_goals clear S_n D5 g_n q_n KT hbt s3 s4
    all_goals go_wp2
    all_goals go_meet
    all_goals exact ⟨⟨fg, fn, fc, hfg, PF⟩, X5, X6, X7, BF, by omega⟩
  obtain ⟨⟨fg, fn, fc, hfg, P1⟩, Q5, Q6, Q7, BB1, hsz1⟩ := hcut
  clear TS0 TS1 P0 K5 K6 K7 BB0 k5 s3 s4 d3a K5a DH HW OFP
  have k7 := Q7.out.cell
  have HEX := Lib.hid (impl_exchange p q N cap B R C i n ⟨e.g, e.piv ++ [k], e.fac⟩ _ fv xs ps wc P1.out HN.out hR hC (by omega) hi hn (by have := BB1.out.size; omega) (by show e.fac.length ≤ 1000; omega))
  obtain ⟨FX, hFX⟩ : ∃ x, x = e.fac ++ (if i = n then [] else [m1F]) := ⟨_, rfl⟩
  have HFX := Lib.hid hFX
  clear hFX P1
  go_wp2_with fail
  refine (HEX.out).mono ?_
  rintro ee w3 ⟨⟨vv, rfl⟩, ⟨fv3, xs3, ps3, P3', F3⟩, K3, B3'⟩
  have P3 := Lib.hid (show PrS w3 B p (some ⟨q, 0, none⟩) N cap R C ⟨exG e.g i n, e.piv ++ [k], FX⟩ (.slice (some ⟨fg, 0, none⟩) fn fc) fv3 xs3 ps3 by rw [HFX.out]; exact P3')
  have FV3 := Lib.hid (show ∀ j, fv3.ownBlock = some j → j < hh ∨ hh + 1 + 1 < j from fun j hj => by
    rcases F3 j hj with h9 | h9
    · exact .inl (FVL.out j h9)
    · right; omega)
  have R5 := Lib.hid (boxed_keptK Q5.out K3 (fun e9 => e9.elim (fun h9 => by omega) (fun e8 => e8.elim (fun h9 => by omega) (fun h9 => by have := FVL.out _ h9; omega))))
  have R6 := Lib.hid (boxed_keptK Q6.out K3 (fun e9 => e9.elim (fun h9 => by omega) (fun e8 => e8.elim (fun h9 => by omega) (fun h9 => by have := FVL.out _ h9; omega))))
  have R7 := Lib.hid (boxed_keptK Q7.out K3 (fun e9 => e9.elim (fun h9 => by omega) (fun e8 => e8.elim (fun h9 => by omega) (fun h9 => by have := FVL.out _ h9; omega))))
  have BB3 := Lib.hid (BB1.out.trans B3')
  have hsz3 : hh + 1 + 1 < w3.heap.size := by have := K3.size; omega
  clear P3' F3 K3 B3' Q5 Q6 Q7 BB1 hsz1 k7 HEX hfg
  -- the used row from its pivot on
  have hn9 := row_in (C := C) hn
  have hRC9 : R * C = N := HN.out.symm
  obtain ⟨l, hl⟩ : ∃ l, n * C * 3 = l := ⟨_, rfl⟩
  have HROW := Lib.hid (fun W (hW : Below w3.heap.size w3 W) => (impl_row (R : Int) C n N (some ⟨q, 0, none⟩) cap W (by omega) hN9 hC (by omega) hcap.1 hcap.2).mono (R' := fun e w' => e = .returned (.slice (some ⟨q, l, none⟩) C C) ∧ Below W.heap.size W w' ∧ Below w3.heap.size w3 w') (fun e w' ⟨he, hb⟩ => ⟨by rw [he, rowV_some (by omega), Nat.zero_add, hl], hb, hW.trans (hb.mono hW.size)⟩))
  obtain ⟨o3, ho3⟩ : ∃ o, l + k * 3 = o := ⟨_, rfl⟩
  have HO3 := Lib.hid (show (n * C + k) * 3 = o3 by rw [← ho3, ← hl]; omega)
  obtain ⟨m, hm⟩ : ∃ m, C - k = m := ⟨_, rfl⟩
  have HM := Lib.hid hm
  have hm0 : 0 < m := by omega
  have HS := Lib.hid (show ∀ W : World, Below w3.heap.size w3 W → (W.cell? ⟨p, 0, none⟩ = some (.int .i64 (R : Int)) ∧ W.cell? ⟨p, 1, none⟩ = some (.int .i64 (C : Int)) ∧ W.cell? ⟨p, 2, none⟩ = some (.slice (some ⟨q, 0, none⟩) N cap) ∧ W.cell? ⟨hh, 0, none⟩ = some (.int .i64 (k : Int)) ∧ W.cell? ⟨hh + 1 + 1, 0, none⟩ = some (.int .i64 (n : Int))) from fun W hW => ⟨(P3.out.D.below hW).c0, (P3.out.D.below hW).c1, (P3.out.D.below hW).c2, (boxed_belowU R5.out hW).cell, (boxed_belowU R7.out hW).cell⟩)
  have d0 := P3.out.D.c0
  have d1 := P3.out.D.c1
  have d2 := P3.out.D.c2
  have k5 := R5.out.cell
  have k7 := R7.out.cell
  have hkC : (k : Int) ≤ (C : Int) := by omega
  have hkC2 : ¬ C = k := by omega
  have hk0 : (0 : Int) ≤ (k : Int) := by omega
  clear hl hn9 hRC9
  go_upto_region 4 with fail
  go_cut [8] from 33 (fun q8 wc => ∃ p8 : Nat, q8 = .pointer (some ⟨p8, 0, none⟩) ∧ hh + 1 + 1 < p8 ∧ w3.heap.size ≤ p8 ∧ Hid (Boxed wc p8 23 (.slice (some ⟨q, o3, none⟩) m m)) ∧ Hid (PrS wc B p (some ⟨q, 0, none⟩) N cap R C ⟨exG e.g i n, e.piv ++ [k], FX⟩ (.slice (some ⟨fg, 0, none⟩) fn fc) fv3 xs3 ps3) ∧ Hid (Boxed wc hh 3 (.int .i64 (k : Int))) ∧ Hid (Boxed wc (hh + 1) 4 (.bool false)) ∧ Hid (Boxed wc (hh + 1 + 1) 3 (.int .i64 (n : Int))) ∧ Hid (Below B w wc))
  case first =>
    refine wp_blind ?_
    go_region_held3 (fun w' => w'.cell? ⟨p, 0, none⟩ = some (.int .i64 (R : Int)) ∧ w'.cell? ⟨p, 1, none⟩ = some (.int .i64 (C : Int)) ∧ w'.cell? ⟨p, 2, none⟩ = some (.slice (some ⟨q, 0, none⟩) N cap) ∧ w'.cell? ⟨hh, 0, none⟩ = some (.int .i64 (k : Int)) ∧ w'.cell? ⟨hh + 1 + 1, 0, none⟩ = some (.int .i64 (n : Int)))
      (first | exact HS.out _ (by first | with_reducible exact Below.refl _ _ | with_reducible exact (Below.refl _ _).drew | with_reducible exact bb_a | with_reducible exact bb_b | with_reducible exact bb_m | with_reducible exact bb_s | with_reducible exact bb_d | with_reducible exact (Below.refl _ _).alloc (Nat.le_refl _) _ | with_reducible exact ((Below.refl _ _).alloc (Nat.le_refl _) _).drew | with_reducible exact bb_a.alloc bb_a.size _ | fail) | exact ⟨(cell_farb (show p ≠ w3.heap.size from by omega) _).trans ((HS.out _ (by first | with_reducible exact Below.refl _ _ | with_reducible exact (Below.refl _ _).drew | with_reducible exact bb_a | with_reducible exact bb_b | with_reducible exact bb_m | with_reducible exact bb_s | with_reducible exact bb_d | with_reducible exact (Below.refl _ _).alloc (Nat.le_refl _) _ | with_reducible exact ((Below.refl _ _).alloc (Nat.le_refl _) _).drew | with_reducible exact bb_a.alloc bb_a.size _ | fail)).1), (cell_farb (show p ≠ w3.heap.size from by omega) _).trans ((HS.out _ (by first | with_reducible exact Below.refl _ _ | with_reducible exact (Below.refl _ _).drew | with_reducible exact bb_a | with_reducible exact bb_b | with_reducible exact bb_m | with_reducible exact bb_s | with_reducible exact bb_d | with_reducible exact (Below.refl _ _).alloc (Nat.le_refl _) _ | with_reducible exact ((Below.refl _ _).alloc (Nat.le_refl _) _).drew | with_reducible exact bb_a.alloc bb_a.size _ | fail)).2.1), (cell_farb (show p ≠ w3.heap.size from by omega) _).trans ((HS.out _ (by first | with_reducible exact Below.refl _ _ | with_reducible exact (Below.refl _ _).drew | with_reducible exact bb_a | with_reducible exact bb_b | with_reducible exact bb_m | with_reducible exact bb_s | with_reducible exact bb_d | with_reducible exact (Below.refl _ _).alloc (Nat.le_refl _) _ | with_reducible exact ((Below.refl _ _).alloc (Nat.le_refl _) _).drew | with_reducible exact bb_a.alloc bb_a.size _ | fail)).2.2.1), (cell_farb (show hh ≠ w3.heap.size from by omega) _).trans ((HS.out _ (by first | with_reducible exact Below.refl _ _ | with_reducible exact (Below.refl _ _).drew | with_reducible exact bb_a | with_reducible exact bb_b | with_reducible exact bb_m | with_reducible exact bb_s | with_reducible exact bb_d | with_reducible exact (Below.refl _ _).alloc (Nat.le_refl _) _ | with_reducible exact ((Below.refl _ _).alloc (Nat.le_refl _) _).drew | with_reducible exact bb_a.alloc bb_a.size _ | fail)).2.2.2.1), (cell_farb (show hh + 1 + 1 ≠ w3.heap.size from by omega) _).trans ((HS.out _ (by first | with_reducible exact Below.refl _ _ | with_reducible exact (Below.refl _ _).drew | with_reducible exact bb_a | with_reducible exact bb_b | with_reducible exact bb_m | with_reducible exact bb_s | with_reducible exact bb_d | with_reducible exact (Below.refl _ _).alloc (Nat.le_refl _) _ | with_reducible exact ((Below.refl _ _).alloc (Nat.le_refl _) _).drew | with_reducible exact bb_a.alloc bb_a.size _ | fail)).2.2.2.2)⟩)
      (first
        | (go_at_call 75; refine (HROW.out _ (by first | with_reducible exact Below.refl _ _ | with_reducible exact (Below.refl _ _).drew | with_reducible exact bb_a | with_reducible exact bb_b | with_reducible exact bb_m | with_reducible exact bb_s | with_reducible exact bb_d | with_reducible exact (Below.refl _ _).alloc (Nat.le_refl _) _ | with_reducible exact ((Below.refl _ _).alloc (Nat.le_refl _) _).drew | with_reducible exact bb_a.alloc bb_a.size _ | fail)).mono ?_; rintro ee w_a ⟨rfl, bw_a, bb_a⟩; (try first | (have dz := boxed_belowU (show Boxed (w3.alloc (.cells #[.slice none 0 0] 23)).drew w3.heap.size 23 (.slice none 0 0) from Boxed.new _ _ _) bw_a; have z0 := dz.cell; have z1 := dz.frozen))))
    all_goals clear d0 d1 d2 k5 k7
    all_goals go_wp2
    all_goals go_meet
    all_goals (first
      | exact ⟨w_a.heap.size, rfl, by have := bb_a.size; omega, bb_a.size, Lib.hid (Boxed.new _ _ _), Lib.hid (P3.out.below (bb_a.alloc bb_a.size _)), Lib.hid (boxed_belowU R5.out (bb_a.alloc bb_a.size _)), Lib.hid (boxed_belowU R6.out (bb_a.alloc bb_a.size _)), Lib.hid (boxed_belowU R7.out (bb_a.alloc bb_a.size _)), Lib.hid (BB3.out.trans ((bb_a.alloc bb_a.size _).mono (by omega)))⟩
      | exact ⟨w3.heap.size, rfl, by omega, Nat.le_refl _, Lib.hid (dz.set _), Lib.hid (P3.out.below (bb_a.setCell (p := ⟨w3.heap.size, 0, none⟩) (Nat.le_refl _) _)), Lib.hid (boxed_belowU R5.out (bb_a.setCell (p := ⟨w3.heap.size, 0, none⟩) (Nat.le_refl _) _)), Lib.hid (boxed_belowU R6.out (bb_a.setCell (p := ⟨w3.heap.size, 0, none⟩) (Nat.le_refl _) _)), Lib.hid (boxed_belowU R7.out (bb_a.setCell (p := ⟨w3.heap.size, 0, none⟩) (Nat.le_refl _) _)), Lib.hid (BB3.out.trans ((bb_a.setCell (p := ⟨w3.heap.size, 0, none⟩) (Nat.le_refl _) _).mono (by omega)))⟩)
  obtain ⟨p8, rfl, hp8, hp8w, Q8, P4, Q5, Q6, Q7, BB4⟩ := hcut
  have FV8 := Lib.hid (show ∀ j, fv3.ownBlock = some j → j < p8 from fun j hj => by have := P3.out.S.lt_all j (.inr (.inr (.inl hj))); omega)
  clear hp8w
  clear P3 R5 R6 R7 BB3 HROW HS d0 d1 d2 k5 k7 hkC hkC2 hk0 hsz3 ho3
  -- the divisor
  obtain ⟨f, hf⟩ : ∃ f, f = e.g i k := ⟨_, rfl⟩
  have HF := Lib.hid hf
  have HFK := Lib.hid (show okF f = true by rw [hf]; exact HEO.out.ok i k hi hk)
  have HFN := Lib.hid (show nilF f = false by rw [hf]; exact HPV.out)
  have HEG := Lib.hid (show exG e.g i n n k = f by rw [ex_at, hf])
  obtain ⟨a3, r3, a4, r4, hc3, hr3, hp3, ho9⟩ := elem_at P4.out.S.V' HN.out hn hk
  rw [HEG.out] at hc3 hr3 hp3 ho9
  rw [HO3.out] at hc3
  obtain ⟨hj9, hp3⟩ := hp3
  have HE3 := P4.out.S.elem hj9
  rw [hp3] at HE3
  have HE3 := Lib.hid HE3
  have HBP := Lib.hid (fun b hb => P4.out.off b (.inl (ho9 b hb).2))
  have HBQ := Lib.hid (fun b hb => (ho9 b hb).1)
  have k8 := Q8.out.cell
  have s0 := hc3.1
  have s1 := hc3.2.1
  have s2 := hc3.2.2
  have hm0' : (0 : Int) < (m : Int) := by omega
  have hwl := Q8.out.lt
  have hpw := P4.out.D.lt
  obtain ⟨W5, hW5⟩ : ∃ x, x = wc.alloc (.cells #[.bool f.neg, .slice a3 f.mag.length r3, .slice a4 f.den.length r4] 34) := ⟨_, rfl⟩
  have b5 := (show Below wc.heap.size wc W5 by rw [hW5]; exact (Below.refl _ _).alloc (Nat.le_refl _) _)
  obtain ⟨p9, hp9'⟩ : ∃ x, x = wc.heap.size := ⟨_, rfl⟩
  have F9 := Lib.hid (show B3 W5 p9 34 (.bool f.neg) (.slice a3 f.mag.length r3) (.slice a4 f.den.length r4) by rw [hW5, hp9']; exact B3.new _ _ _ _ _)
  have P5 := Lib.hid (P4.out.below b5)
  have R5 := Lib.hid (boxed_belowU Q5.out b5)
  have R6 := Lib.hid (boxed_belowU Q6.out b5)
  have R7 := Lib.hid (boxed_belowU Q7.out b5)
  have R8 := Lib.hid (boxed_belowU Q8.out b5)
  have RF := Lib.hid (hr3.below b5)
  have BB5 := Lib.hid (BB4.out.trans (b5.mono (by have := BB4.out.size; have := HB9.out; omega)))
  have HE5 := Lib.hid (fun b hb => (⟨Nat.lt_of_lt_of_le (HE3.out b hb).1 b5.size, (HE3.out b hb).2⟩ : b < W5.heap.size ∧ _))
  have hs5 : W5.heap.size = p9 + 1 := by rw [hW5, hp9']; simp
  have hp89 : p8 < p9 := by omega
  have hpp9 : p < p9 := by omega
  have hqp9 : q < p9 := by have := hqh; omega
  have HW := Lib.hid hW5.symm
  have HP9 := Lib.hid hp9'.symm
  have FV5 := Lib.hid (show ∀ j, fv3.ownBlock = some j → j < p9 from fun j hj => by rw [hp9']; exact P4.out.S.lt_all j (.inr (.inr (.inl hj))))
  clear hf hc3 hr3 hp3 ho9 hj9 hW5 b5 hp9' HE3 P4 Q5 Q6 Q7 Q8 BB4 hwl hpw
  go_upto_region 6 with fail
  rw [HW.out, HP9.out]
  clear k8 s0 s1 s2 HW HP9
  have ba6 := (Below.refl W5.heap.size W5).alloc (Nat.le_refl _) (.cells #[.bool f.neg, .slice a3 f.mag.length r3, .slice a4 f.den.length r4] 34)
  have TS0 := Lib.hid (show (ElS (W5.alloc (.cells #[.bool f.neg, .slice a3 f.mag.length r3, .slice a4 f.den.length r4] 34)) B (.slice (some ⟨q, 0, none⟩) N cap) R C ⟨exG e.g i n, e.piv ++ [k], FX⟩ (.slice (some ⟨fg, 0, none⟩) fn fc) fv3 xs3 ps3 ∧ B ≤ (W5.alloc (.cells #[.bool f.neg, .slice a3 f.mag.length r3, .slice a4 f.den.length r4] 34)).heap.size ∧ (W5.alloc (.cells #[.bool f.neg, .slice a3 f.mag.length r3, .slice a4 f.den.length r4] 34)).heap[p9 + 1]? = some (.cells #[.bool f.neg, .slice a3 f.mag.length r3, .slice a4 f.den.length r4] 34 (0, 0)) ∧ RowR (W5.alloc (.cells #[.bool f.neg, .slice a3 f.mag.length r3, .slice a4 f.den.length r4] 34)) (.slice a3 f.mag.length r3) f.mag (.slice a4 f.den.length r4) f.den ∧ (∀ b, ((Value.slice a3 f.mag.length r3).ownBlock = some b ∨ (Value.slice a4 f.den.length r4).ownBlock = some b) → b < (W5.alloc (.cells #[.bool f.neg, .slice a3 f.mag.length r3, .slice a4 f.den.length r4] 34)).heap.size ∧ (Value.slice (some ⟨q, 0, none⟩) N cap).ownBlock ≠ some b ∧ (Value.slice (some ⟨fg, 0, none⟩) fn fc).ownBlock ≠ some b ∧ fv3.ownBlock ≠ some b) ∧ B5 (W5.alloc (.cells #[.bool f.neg, .slice a3 f.mag.length r3, .slice a4 f.den.length r4] 34)) p 79 (.int .i64 (R : Int)) (.int .i64 (C : Int)) (.slice (some ⟨q, 0, none⟩) N cap) (.slice (some ⟨fg, 0, none⟩) fn fc) fv3) from
    ⟨P5.out.S.alloc _, by have := P5.out.hB; simp; omega, by rw [← hs5]; exact World.alloc_heap_new _ _, RF.out.below ba6, fun b hb => ⟨Nat.lt_of_lt_of_le (HE5.out b hb).1 ba6.size, (HE5.out b hb).2⟩, P5.out.D.alloc _⟩)
  have TS1 := Lib.hid (show (ElS (W5.alloc (.cells #[.bool f.neg, .slice a3 f.mag.length r3, .slice a4 f.den.length r4] 34)).drew B (.slice (some ⟨q, 0, none⟩) N cap) R C ⟨exG e.g i n, e.piv ++ [k], FX⟩ (.slice (some ⟨fg, 0, none⟩) fn fc) fv3 xs3 ps3 ∧ B ≤ (W5.alloc (.cells #[.bool f.neg, .slice a3 f.mag.length r3, .slice a4 f.den.length r4] 34)).drew.heap.size ∧ (W5.alloc (.cells #[.bool f.neg, .slice a3 f.mag.length r3, .slice a4 f.den.length r4] 34)).drew.heap[p9 + 1]? = some (.cells #[.bool f.neg, .slice a3 f.mag.length r3, .slice a4 f.den.length r4] 34 (0, 0)) ∧ RowR (W5.alloc (.cells #[.bool f.neg, .slice a3 f.mag.length r3, .slice a4 f.den.length r4] 34)).drew (.slice a3 f.mag.length r3) f.mag (.slice a4 f.den.length r4) f.den) from ⟨TS0.out.1.drew, TS0.out.2.1, TS0.out.2.2.1, TS0.out.2.2.2.1⟩)
  have HFL := Lib.hid (show FX.length ≤ 100000 by
    rw [HFX.out, List.length_append]
    have h9 : (if i = n then ([] : List Fr) else [m1F]).length ≤ 1 := by
      by_cases h8 : i = n
      · rw [if_pos h8]; exact Nat.zero_le _
      · rw [if_neg h8]; exact Nat.le_refl _
    omega)
  have OFF4 := Lib.hid (fun e9 => P5.out.off p (.inr (.inr (.inl e9))) rfl)
  have f0 := F9.out.c0
  have f1 := F9.out.c1
  have f2 := F9.out.c2
  have s4 := P5.out.D.c4
  have s5 := P5.out.D.f 4
  have F9a := F9.out.alloc (.cells #[.bool f.neg, .slice a3 f.mag.length r3, .slice a4 f.den.length r4] 34)
  have g0 := F9a.c0
  have g1 := F9a.c1
  have g2 := F9a.c2
  have d4a := TS0.out.2.2.2.2.2.c4
  clear ba6
  go_cut [] from 44 (fun wc => (∃ fg4 fn4 fc4, (fg4 < hh ∨ hh + 1 + 1 < fg4) ∧ Hid (PrS wc B p (some ⟨q, 0, none⟩) N cap R C ⟨exG e.g i n, e.piv ++ [k], FX ++ [f]⟩ (.slice (some ⟨fg, 0, none⟩) fn fc) (.slice (some ⟨fg4, 0, none⟩) fn4 fc4) xs3 (ps3 ++ [(.slice a3 f.mag.length r3, .slice a4 f.den.length r4)]))) ∧ Hid (Boxed wc hh 3 (.int .i64 (k : Int))) ∧ Hid (Boxed wc (hh + 1) 4 (.bool false)) ∧ Hid (Boxed wc (hh + 1 + 1) 3 (.int .i64 (n : Int))) ∧ Hid (Boxed wc p8 23 (.slice (some ⟨q, o3, none⟩) m m)) ∧ Hid (B3 wc p9 34 (.bool f.neg) (.slice a3 f.mag.length r3) (.slice a4 f.den.length r4)) ∧ Hid (RowR wc (.slice a3 f.mag.length r3) f.mag (.slice a4 f.den.length r4) f.den) ∧ Hid (Below B w wc))
  case first =>
    refine wp_blind ?_
    go_region_law (first
      | (refine step_append_fac rfl _ _ rfl rfl TS1.out.1 HFL.out TS1.out.2.1 _ _ rfl f _ _ _ _ _ _ TS1.out.2.2.1 TS1.out.2.2.2 TS0.out.2.2.2.2.1 ?_; intro fg4 fn4 fc4 w_n S_n g_d q_d; have g_n : (W5.alloc (.cells #[.bool f.neg, .slice a3 f.mag.length r3, .slice a4 f.den.length r4] 34)).grownBy w_n fv3.ownBlock := grown_drew g_d; have q_n : fv3.ownBlock = some fg4 ∨ fg4 = (W5.alloc (.cells #[.bool f.neg, .slice a3 f.mag.length r3, .slice a4 f.den.length r4] 34)).heap.size := q_d; clear g_d q_d; have D5 := (TS0.out.2.2.2.2.2).keptK (Kept.of_grown g_n) OFF4.out; have s4 := D5.c4; have s5 := D5.f 4)
      | (refine step_append_fac rfl _ _ rfl rfl TS0.out.1 HFL.out TS0.out.2.1 _ _ rfl f _ _ _ _ _ _ TS0.out.2.2.1 TS0.out.2.2.2.1 TS0.out.2.2.2.2.1 ?_; intro fg4 fn4 fc4 w_n S_n g_d q_d; have g_n : (W5.alloc (.cells #[.bool f.neg, .slice a3 f.mag.length r3, .slice a4 f.den.length r4] 34)).grownBy w_n fv3.ownBlock := g_d; have q_n : fv3.ownBlock = some fg4 ∨ fg4 = (W5.alloc (.cells #[.bool f.neg, .slice a3 f.mag.length r3, .slice a4 f.den.length r4] 34)).heap.size := q_d; clear g_d q_d; have D5 := (TS0.out.2.2.2.2.2).keptK (Kept.of_grown g_n) OFF4.out; have s4 := D5.c4; have s5 := D5.f 4)
      | fail)
    all_goals (have hbt := (show Below W5.heap.size W5 (W5.alloc (.cells #[.bool f.neg, .slice a3 f.mag.length r3, .slice a4 f.den.length r4] 34)) from (Below.refl _ _).alloc (Nat.le_refl _) _))
    all_goals (have KT := (Kept.of_below (S := fun j => j = p ∨ fv3.ownBlock = some j) hbt).trans (((Kept.of_grown g_n).mono (fun j e => .inr e)).trans ((kept_set w_n p 4 (.slice (some ⟨fg4, 0, none⟩) fn4 fc4)).mono (fun j e => .inl e))))
    all_goals (have hf4 : fg4 < hh ∨ hh + 1 + 1 < fg4 := by
      { rcases q_n with h9 | h9
        · exact FV3.out fg4 h9
        · right; simp at h9; omega })
    all_goals (have hfp : fg4 ≠ p := by
      { rcases q_n with h9 | h9
        · exact P5.out.off fg4 (.inr (.inr (.inl h9)))
        · simp at h9; omega })
    all_goals (have PF := Lib.hid (P5.out.addedF S_n D5 hfp (fun b hb => HBP.out b hb)))
    all_goals (have X5 := Lib.hid (boxed_keptK R5.out KT (fun e9 => e9.elim (fun h9 => by omega) (fun h9 => by have := FV3.out _ h9; omega))))
    all_goals (have X6 := Lib.hid (boxed_keptK R6.out KT (fun e9 => e9.elim (fun h9 => by omega) (fun h9 => by have := FV3.out _ h9; omega))))
    all_goals (have X7 := Lib.hid (boxed_keptK R7.out KT (fun e9 => e9.elim (fun h9 => by omega) (fun h9 => by have := FV3.out _ h9; omega))))
    all_goals (have X8 := Lib.hid (boxed_keptK R8.out KT (fun e9 => e9.elim (fun h9 => by omega) (fun h9 => by have := FV8.out _ h9; omega))))
    all_goals (have X9 := Lib.hid (F9.out.keptK KT (fun e9 => e9.elim (fun h9 => by omega) (fun h9 => by have := FV5.out _ h9; omega))))
    all_goals (have XR := Lib.hid (RF.out.keptS KT (fun b hb e9 => e9.elim (fun h9 => HBP.out b hb h9) (fun h9 => (HE5.out b hb).2.2.2 h9))))
    all_goals (have hB5 : B ≤ W5.heap.size := by have := P5.out.hB; omega)
    all_goals (have BF := Lib.hid (((BB5.out.alloc hB5 (.cells #[.bool f.neg, .slice a3 f.mag.length r3, .slice a4 f.den.length r4] 34)).grown g_n (by simp; omega) (fun b hb => (P5.out.S.F.lt b hb).1)).setCell (p := ⟨p, 4, none⟩) P5.out.hB (.slice (some ⟨fg4, 0, none⟩) fn4 fc4)))
    all_goals clear S_n D5 g_n q_n KT hbt s4 s5 f0 f1 f2 g0 g1 g2 d4a
    all_goals go_wp2
    all_goals go_meet
    all_goals exact ⟨⟨fg4, fn4, fc4, hf4, PF⟩, X5, X6, X7, X8, X9, XR, BF⟩
  obtain ⟨⟨fg4, fn4, fc4, hf4, P6⟩, Q5, Q6, Q7, Q8, F6, RF6, BB6⟩ := hcut
  clear TS0 TS1 P5 R5 R6 R7 R8 F9 RF BB5 f0 f1 f2 s4 s5 g0 g1 g2 d4a F9a HFL OFF4 HE5 hs5
  -- the quotients
  have HOKG := Lib.hid (HEO.out.ok.ex hi hn)
  have HFNG := Lib.hid (show nilF (exG e.g i n n k) = false by rw [HEG.out]; exact HFN.out)
  obtain ⟨Lu, hLu⟩ : ∃ x, x = partL (tabM R C (exG e.g i n)) (n * C + k) (C - k) := ⟨_, rfl⟩
  have HLU := Lib.hid hLu
  have hlu : Lu.length = m := by rw [hLu, part_len hn hk]; exact HM.out
  have E1 := Lib.hid (show ∀ j (hj : j < Lu.length), okF (Lu[j]'hj) = true by
    subst hLu
    intro j hj
    have hj2 : j < C - k := by rw [part_len hn hk] at hj; exact hj
    have e9 : (partL (tabM R C (exG e.g i n)) (n * C + k) (C - k))[j]'hj = exG e.g i n n (k + j) := by
      simp only [part_tab hn hk, List.getElem_map, List.getElem_range]
    rw [e9]
    exact HOKG.out n (k + j) hn (by omega))
  have HRU := Lib.hid (show RatsAt wc (.slice (some ⟨q, o3, none⟩) m m) Lu by
    have h9 := rats_partV (o := n * C + k) (m := C - k) (c := C - k) P6.out.S.V'.rats (by rw [tabM_len]; exact part_in hn hk) (Nat.le_refl _) (by unfold maxLen; omega)
    unfold partV at h9
    rw [HO3.out, HM.out, ← HM.out, ← hLu, HM.out] at h9
    exact h9)
  obtain ⟨Z, hZ⟩ : ∃ x, x = fineV (mulsL (invX f) Lu) := ⟨_, rfl⟩
  have HZ := Lib.hid hZ
  have HMU := Lib.hid (fun W (hW : Below wc.heap.size wc W) => (impl_multiplesOf (invX f) (ok_inv HFK.out HFN.out) (.slice a4 f.den.length r4) (.slice a3 f.mag.length r3) (.slice (some ⟨q, o3, none⟩) m m) Lu W ⟨(RF6.out.below hW).2, (RF6.out.below hW).1⟩ (HRU.out.below hW) (by omega) E1.out).mono (R' := fun e w' => ∃ x xs, e = .returned (.tuple #[x, .bool Z]) ∧ OwnV w' wc.heap.size x (mulsA (invX f) Lu) xs ∧ Below wc.heap.size wc w') (fun e w' ⟨x, xs, he, ho, hb⟩ => ⟨x, xs, by rw [he, ← hZ], ho.base hW.size, hW.trans (hb.mono hW.size)⟩))
  have HIV := Lib.hid (fun W (hW : Below wc.heap.size wc W) => (impl_invF f (.slice a3 f.mag.length r3) (.slice a4 f.den.length r4) W (RF6.out.below hW)).mono (R' := fun e w' => e = .returned (.agg #[.bool (invX f).neg, .slice a4 f.den.length r4, .slice a3 f.mag.length r3]) ∧ Below wc.heap.size wc w') (fun e w' ⟨he, hb⟩ => ⟨he, hW.trans (hb.mono hW.size)⟩))
  have HS := Lib.hid (show ∀ W : World, Below wc.heap.size wc W → (W.cell? ⟨p8, 0, none⟩ = some (.slice (some ⟨q, o3, none⟩) m m) ∧ W.cell? ⟨p9, 0, none⟩ = some (.bool f.neg) ∧ W.cell? ⟨p9, 1, none⟩ = some (.slice a3 f.mag.length r3) ∧ W.cell? ⟨p9, 2, none⟩ = some (.slice a4 f.den.length r4)) from fun W hW => ⟨(boxed_belowU Q8.out hW).cell, (F6.out.below hW).c0, (F6.out.below hW).c1, (F6.out.below hW).c2⟩)
  have k8 := Q8.out.cell
  have f0 := F6.out.c0
  have f1 := F6.out.c1
  have f2 := F6.out.c2
  clear hLu hZ RF6
  go_upto_region 7 with fail
  refine wp_blind ?_
  go_region_held3 (fun w' => w'.cell? ⟨p8, 0, none⟩ = some (.slice (some ⟨q, o3, none⟩) m m) ∧ w'.cell? ⟨p9, 0, none⟩ = some (.bool f.neg) ∧ w'.cell? ⟨p9, 1, none⟩ = some (.slice a3 f.mag.length r3) ∧ w'.cell? ⟨p9, 2, none⟩ = some (.slice a4 f.den.length r4))
    (exact HS.out _ (by first | with_reducible exact Below.refl _ _ | with_reducible exact (Below.refl _ _).drew | with_reducible exact bb_a | with_reducible exact bb_b | with_reducible exact bb_m | with_reducible exact bb_s | with_reducible exact bb_d | with_reducible exact (Below.refl _ _).alloc (Nat.le_refl _) _ | with_reducible exact ((Below.refl _ _).alloc (Nat.le_refl _) _).drew | with_reducible exact bb_a.alloc bb_a.size _ | fail))
    (first
      | (go_at_call 163; refine (HMU.out _ (by first | with_reducible exact Below.refl _ _ | with_reducible exact (Below.refl _ _).drew | with_reducible exact bb_a | with_reducible exact bb_b | with_reducible exact bb_m | with_reducible exact bb_s | with_reducible exact bb_d | with_reducible exact (Below.refl _ _).alloc (Nat.le_refl _) _ | with_reducible exact ((Below.refl _ _).alloc (Nat.le_refl _) _).drew | with_reducible exact bb_a.alloc bb_a.size _ | fail)).mono ?_; rintro ee w_b ⟨x_b, xs_b, rfl, o_b, bb_b⟩)
      | (go_at_call 164; refine (HIV.out _ (by first | with_reducible exact Below.refl _ _ | with_reducible exact (Below.refl _ _).drew | with_reducible exact bb_a | with_reducible exact bb_b | with_reducible exact bb_m | with_reducible exact bb_s | with_reducible exact bb_d | with_reducible exact (Below.refl _ _).alloc (Nat.le_refl _) _ | with_reducible exact ((Below.refl _ _).alloc (Nat.le_refl _) _).drew | with_reducible exact bb_a.alloc bb_a.size _ | fail)).mono ?_; rintro ee w_a ⟨rfl, bb_a⟩))
  have hBw : B ≤ wc.heap.size := by have := P6.out.hB; have := P6.out.D.lt; omega
  have P7 := Lib.hid (P6.out.below bb_b)
  have R5 := Lib.hid (boxed_belowU Q5.out bb_b)
  have R6 := Lib.hid (boxed_belowU Q6.out bb_b)
  have R7 := Lib.hid (boxed_belowU Q7.out bb_b)
  have R8 := Lib.hid (boxed_belowU Q8.out bb_b)
  have BB7 := Lib.hid (BB6.out.trans (bb_b.mono hBw))
  have OB := Lib.hid o_b
  have LPW := Lib.hid (P6.out.S.lt_all)
  have P6K := Lib.hid P6.out
  have KBB := Lib.hid (Kept.of_below (S := fun j => j = q) bb_b)
  clear P6 Q5 Q6 Q7 Q8 F6 BB6 o_b HMU HIV HS k8 f0 f1 f2 bb_b HRU
  cases Z with
  | false =>
    have HZ9 := Lib.hid (show ZF = false by
      rw [HZF.out]
      have h9 : ¬ ∀ b, k ≤ b → b < C → okF (dvG (exG e.g i n) n k n b) = true := fun hall => by
        have h8 := (quot_fine HOKG.out hn hk HFNG.out).2 hall
        rw [HEG.out, ← HLU.out, ← HZ.out] at h8
        cases h8
      obtain ⟨b, h8⟩ := Classical.not_forall.1 h9
      obtain ⟨h7, h8⟩ := Classical.not_imp.1 h8
      obtain ⟨h6, h8⟩ := Classical.not_imp.1 h8
      exact use_badQ HEO.out.ok HN0.out hi hn hk HPV.out h6 h7 h8)
    have y0 := R6.out.cell
    have y1 := R6.out.frozen
    have e9 := (R6.out.set (.bool false)).cell
    have B9 := Lib.hid (BB7.out.setCell (p := ⟨hh + 1, 0, none⟩) (by show B ≤ hh + 1; omega) (.bool false))
    obtain rfl : ZF = false := HZ9.out
    go_wp2_with fail
    refine ⟨.bool false, ?_, ?_⟩
    · simp [results, Tryz.f140, go_sem, e9]
    · first | exact ⟨rfl, B9.out⟩ | exact ⟨rfl, (fun h => by cases h), B9.out⟩
  | true =>
  obtain ⟨QL, hQL⟩ : ∃ x, x = mulsL (invX f) Lu := ⟨_, rfl⟩
  have HQA := Lib.hid (show mulsA (invX f) Lu = QL by rw [hQL]; exact mulsA_yes HZ.out.symm)
  have hQm : QL.length = m := by rw [hQL, muls_len, hlu]
  have ob := OB.out
  rw [HQA.out] at ob
  obtain ⟨g3, c3, rfl, hg3, hg3'⟩ := ob.some_at (by omega)
  rw [hQm] at ob ⊢
  obtain ⟨cur, hcur, hcl, hcn⟩ := P7.out.S.V'.block
  have hfl9 := flat_len QL xs_b ob.len
  have hlN : (tabM R C (exG e.g i n)).length = N := by rw [tabM_len, HN.out]
  have hin9 := part_in hn hk
  have hin8 : n * C + k + m ≤ N := by rw [← HM.out, HN.out]; exact hin9
  have HSPL := Lib.hid (show spl (tabM R C (exG e.g i n)) (n * C + k) QL = tabM R C (dvG (exG e.g i n) n k) by
    rw [hQL, HLU.out]
    have h9 := quot_spl (g := exG e.g i n) hn hk
    rw [HEG.out] at h9
    exact h9)
  have SP := P7.out.S.V'.splice (M := QL) (ys := xs_b) (o := n * C + k) hcur ob.len (by rw [hlN, hQm]; exact hin8) (fun j h1 h2 => (ob.each j h1 h2).base hBw) ob.apart (fun p' hp' q' hq' r r' e1 e2 => by have h3 := LPW.out r (.inl (.inr ⟨p', hp', e1⟩)); have h4 := (xs_lt ob q' hq' r' e2).1; omega) (fun q' hq' r e2 => by have h4 := (xs_lt ob q' hq' r e2).1; have := LPW.out q (.inl (.inl rfl)); omega)
  rw [HSPL.out, HO3.out] at SP
  have HP8 := Lib.hid (show ∀ w4, w4 = w_b.setRow q (cur.take o3 ++ flat QL xs_b ++ cur.drop (o3 + (flat QL xs_b).length)).toArray → (∃ xs8, PrS w4 B p (some ⟨q, 0, none⟩) N cap R C ⟨dvG (exG e.g i n) n k, e.piv ++ [k], FX ++ [f]⟩ (.slice (some ⟨fg, 0, none⟩) fn fc) (.slice (some ⟨fg4, 0, none⟩) fn4 fc4) xs8 (ps3 ++ [(.slice a3 f.mag.length r3, .slice a4 f.den.length r4)])) ∧ Kept (fun j => j = q) w_b w4 from fun w4 h4 => by
    subst h4
    exact ⟨⟨_, P6K.out.cells SP.1 (KBB.out.trans SP.2) (fun b hb => .inl (by rw [hb]; rfl)) (onV_spl (n := wc.heap.size) (fun q' hq' r e2 => (xs_lt ob q' hq' r e2).1))⟩, SP.2⟩)
  have HSRC := Lib.hid ob.src
  have HONE := Lib.hid ob.one
  have HCU := Lib.hid (And.intro hcur (show o3 + (flat QL xs_b).length ≤ cur.length by rw [hfl9, hcl, ← HO3.out]; omega))
  have HF9 := Lib.hid (show (flat QL xs_b).length = m * 3 by rw [hfl9, hQm])
  have k8 := R8.out.cell
  clear SP hcur hcl hcn hfl9 hin9 hin8 hlN ob hQL
  go_wp2_with (first
    | (refine copy3_list rfl (.tmp 63) (.tmp 64) 23 23 Tryz.underlying23 rfl q o3 m m ⟨g3, 0, none⟩ m c3 m rfl rfl cur 34 (flat QL xs_b) HCU.out.1 (Nat.min_self m) HF9.out HSRC.out HCU.out.2 HONE.out ?_; intro w4 hg4 hw4; have HW4 := Lib.hid hw4; clear hw4; obtain ⟨⟨xs8, P8'⟩, K8'⟩ := HP8.out w4 HW4.out; have P8 := Lib.hid P8'; have K8 := Lib.hid K8'; clear P8' K8'; have d0 := P8.out.D.c0; have d1 := P8.out.D.c1; have d2 := P8.out.D.c2)
    | (go_at_call 70; refine ((callsIn_wide (n := 3)).1 (rows_in Fence.wide _ trivial rfl _ _ _ _)).mono ?_; rintro ee w' ⟨rfl, rfl⟩))
  obtain ⟨qb, hqb⟩ : ∃ x, x = w4.heap.size := ⟨_, rfl⟩
  obtain ⟨W1, hW1⟩ : ∃ x, x = w4.alloc (.cells #[.int .i64 (R : Int), .int .i64 (C : Int), (.slice (some ⟨q, 0, none⟩) N cap)] 25) := ⟨_, rfl⟩
  have b9 := (show Below w4.heap.size w4 W1 by rw [hW1]; exact (Below.refl _ _).alloc (Nat.le_refl _) _)
  have DB := Lib.hid (show B3 W1 qb 25 (.int .i64 (R : Int)) (.int .i64 (C : Int)) (.slice (some ⟨q, 0, none⟩) N cap) by rw [hW1, hqb]; exact B3.new _ _ _ _ _)
  have P9 := Lib.hid (P8.out.below b9)
  have Y5 := Lib.hid (boxed_belowU (boxed_keptK R5.out K8.out (by omega)) b9)
  have Y6 := Lib.hid (boxed_belowU (boxed_keptK R6.out K8.out (by omega)) b9)
  have Y7 := Lib.hid (boxed_belowU (boxed_keptK R7.out K8.out (by omega)) b9)
  have Y8 := Lib.hid (boxed_belowU (boxed_keptK R8.out K8.out (by omega)) b9)
  have hB4 : B ≤ w4.heap.size := by have := K8.out.size; have := R5.out.lt; omega
  have BB9 := Lib.hid ((below_kept BB7.out K8.out (by have := R5.out.lt; omega) (fun b hb => by rw [hb]; exact (P8.out.S.V.lt q (.inl rfl)).1)).trans (b9.mono hB4))
  have hs9 : W1.heap.size = qb + 1 := by rw [hW1, hqb]; simp
  have hq9 : p8 < qb := by rw [hqb]; have := K8.out.size; have := R8.out.lt; omega
  rw [← hW1, ← hqb]
  obtain ⟨ps8, hps8⟩ : ∃ x, x = ps3 ++ [(Value.slice a3 f.mag.length r3, Value.slice a4 f.den.length r4)] := ⟨_, rfl⟩
  rw [← hps8] at P9
  have HOK2 := Lib.hid (show OkM R C (dvG (exG e.g i n) n k) from fun a b ha hb => by
    by_cases h9 : a = n ∧ k ≤ b
    · obtain ⟨rfl, h8⟩ := h9
      have h7 := HZ.out.symm
      rw [HLU.out, ← HEG.out] at h7
      exact (quot_fine HOKG.out hn hk HFNG.out).1 h7 b h8 hb
    · unfold dvG
      rw [if_neg h9]
      exact HOKG.out a b ha hb)
  have HFE := Lib.hid (show FX ++ [f] = (useE e i k).fac by unfold useE; rw [HN0.out, HFX.out, HF.out])
  obtain ⟨F8, hF8⟩ : ∃ x, x = FX ++ [f] := ⟨_, rfl⟩
  rw [← hF8] at P9 HFE
  clear hqb hW1 b9 P8 K8 R5 R6 R7 R8 BB7 hB4 hps8 hF8 HP8 HSRC HONE HCU HF9 HSPL OB P7 P6K KBB LPW HQA hg3 hg3' k8 d0 d1 d2 hg4 HW4
  clear HZ E1 HLU HE3
  refine (wpIn_wide (n := 3)).1 ?_
  refine wpIn_rangeFunc_ownG rfl (by omega) (gf := 112) (lb := #[.pointer (some ⟨qb, 0, none⟩)]) rfl trivial (enters_of Tryz.func112 (by kernel_rfl) rfl)
    (rows_stops qb R C N _ cap (by omega) (some ⟨q, 0, none⟩) hR hC HN.out hcap.1 hcap.2 W1 DB.out) (fun h k => KpM.trans h k) (KpM.putObj (by omega)) (Below.refl _ _) (fun _ => rfl)
    (fun pre W => ((∃ gp xs', OkM R C gp ∧ PrS W B p (some ⟨q, 0, none⟩) N cap R C ⟨gp, e.piv ++ [k], F8⟩ (.slice (some ⟨fg, 0, none⟩) fn fc) (.slice (some ⟨fg4, 0, none⟩) fn4 fc4) xs' ps8 ∧ (pre.map rix = List.range pre.length → ∀ r b, r < R → b < C → gp r b = clP (dvG (exG e.g i n) n k) n k pre.length k r b)) ∧ Boxed W hh 3 (.int .i64 (k : Int)) ∧ Boxed W (hh + 1) 4 (.bool false) ∧ Boxed W (hh + 1 + 1) 3 (.int .i64 (n : Int)) ∧ Boxed W p8 23 (.slice (some ⟨q, o3, none⟩) m m) ∧ qb < W.heap.size) ∧ Below B w W)
    (fun c pre W => (c = .ret ∧ Boxed W (hh + 1) 4 (.bool false) ∧ ((∃ x, x ≤ R ∧ pre.map rix = List.range x) → ZF = false)) ∧ Below B w W)
    (OwnFrom.and (Own.from (fun s A B' row hs hg hr => by
      obtain ⟨⟨gp, xs', h1, h2, h3⟩, h5, h6, h7, h8, h9⟩ := hs
      exact ⟨⟨gp, xs', h1, h2.turn hg hr, h3⟩, boxed_own _ _ (fun _ : List (RowA R) => _) s A B' row h5 hg hr, boxed_own _ _ (fun _ : List (RowA R) => _) s A B' row h6 hg hr, boxed_own _ _ (fun _ : List (RowA R) => _) s A B' row h7 hg hr, boxed_own _ _ (fun _ : List (RowA R) => _) s A B' row h8 hg hr, Nat.lt_of_lt_of_le h9 hg.size⟩) _) (ownFrom_below HB9.out (by omega)))
    (fun c => OwnFrom.and (Own.from (fun s A B' row hs hg hr => ⟨hs.1, boxed_own _ _ (fun _ : List (RowA R) => _) s A B' row hs.2.1 hg hr, hs.2.2⟩) _) (ownFrom_below HB9.out (by omega)))
    ⟨⟨⟨_, xs8, HOK2.out, P9.out, fun _ r b _ _ => by rw [List.length_nil, clP_zero _ _ _ _ (Nat.le_refl _)]⟩, Y5.out, Y6.out, Y7.out, Y8.out, by omega⟩, BB9.out⟩
    (fun y => { tmps := List.toArray ((.pointer (some ⟨p, 0, none⟩) : Value) :: (.int .i64 (i : Int) : Value) :: (.int .i64 (k : Int) : Value) :: undef :: undef :: (.pointer (some ⟨hh, 0, none⟩) : Value) :: (.pointer (some ⟨hh + 1, 0, none⟩) : Value) :: (.pointer (some ⟨hh + 1 + 1, 0, none⟩) : Value) :: (.pointer (some ⟨p8, 0, none⟩) : Value) :: (.pointer (some ⟨p9, 0, none⟩) : Value) :: (.slice (some ⟨g3, 0, none⟩) m c3 : Value) :: (.bool true : Value) :: (.int .i64 (y.1 : Int) : Value) :: (rowV (some ⟨q, 0, none⟩) C y.1 : Value) :: (.pointer (some ⟨p, 0, none⟩) : Value) :: (.pointer (some ⟨p, 0, none⟩) : Value) :: (.pointer (some ⟨p, 3, none⟩) : Value) :: (.slice pa n pc : Value) :: (.int .i64 (n : Int) : Value) :: (u19 : Value) :: (u20 : Value) :: (u21 : Value) :: (u22 : Value) :: (u23 : Value) :: (u24 : Value) :: (u25 : Value) :: (u26 : Value) :: (u27 : Value) :: (u28 : Value) :: (.pointer (some ⟨p, 0, none⟩) : Value) :: (.int .i64 (i : Int) : Value) :: (.int .i64 (n : Int) : Value) :: (vv : Value) :: (u33 : Value) :: (u34 : Value) :: (u35 : Value) :: (u36 : Value) :: (u37 : Value) :: (u38 : Value) :: (u39 : Value) :: (u40 : Value) :: (.slice (some ⟨q, o3, none⟩) m m : Value) :: (.pointer (some ⟨q, o3, none⟩) : Value) :: (.agg #[.bool f.neg, .slice a3 f.mag.length r3, .slice a4 f.den.length r4] : Value) :: (u44 : Value) :: (u45 : Value) :: (u46 : Value) :: (u47 : Value) :: (u48 : Value) :: (u49 : Value) :: (u50 : Value) :: (u51 : Value) :: (u52 : Value) :: (u53 : Value) :: (.tuple #[.slice (some ⟨g3, 0, none⟩) m c3, .bool true] : Value) :: (.slice (some ⟨q, o3, none⟩) m m : Value) :: (.agg #[.bool f.neg, .slice a3 f.mag.length r3, .slice a4 f.den.length r4] : Value) :: (.agg #[.bool (invX f).neg, .slice a4 f.den.length r4, .slice a3 f.mag.length r3] : Value) :: (.tuple #[.slice (some ⟨g3, 0, none⟩) m c3, .bool true] : Value) :: (.slice (some ⟨g3, 0, none⟩) m c3 : Value) :: (.bool true : Value) :: (.bool true : Value) :: (.bool false : Value) :: (.slice (some ⟨q, o3, none⟩) m m : Value) :: (.slice (some ⟨g3, 0, none⟩) m c3 : Value) :: (.int .i64 (m : Int) : Value) :: (.pointer (some ⟨p, 0, none⟩) : Value) :: (.pointer (some ⟨p, 0, none⟩) : Value) :: (.pointer (some ⟨p, 0, none⟩) : Value) :: (.agg #[.int .i64 (R : Int), .int .i64 (C : Int), .slice (some ⟨q, 0, none⟩) N cap] : Value) :: (.func (.func 112) #[] #[.pointer (some ⟨qb, 0, none⟩)] : Value) :: (.int .i64 (y.1 : Int) : Value) :: (rowV (some ⟨q, 0, none⟩) C y.1 : Value) :: (u73 : Value) :: (u74 : Value) :: (u75 : Value) :: (u76 : Value) :: (u77 : Value) :: (u78 : Value) :: (u79 : Value) :: (u80 : Value) :: (u81 : Value) :: (u82 : Value) :: (u83 : Value) :: []), defers := [] }) ?assign ?body ?done ?stop
  case assign =>
    intro l y W K hK
    gi_wp2
    exact hK
  case body =>
    rintro l pre y W ⟨⟨⟨gp, xs', hok, hP, hrel⟩, h5, h6, h7, h8, hsz⟩, hB⟩ _
    have hi9 := y.2
    have hyx : rix y = y.1 := rfl
    have HREL := Lib.hid (show (pre ++ [y]).map rix = List.range (pre ++ [y]).length → y.1 = pre.length ∧ ∀ r b, r < R → b < C → gp r b = clP (dvG (exG e.g i n) n k) n k y.1 k r b from fun h9 => by
      obtain ⟨h8, h7⟩ := range_snoc h9
      rw [hyx] at h7
      refine ⟨h7, fun r b hr hb => ?_⟩
      rw [h7]
      exact hrel h8 r b hr hb)
    have KOK := Lib.hid hok
    have KP := Lib.hid hP
    have K5 := Lib.hid h5
    have K6 := Lib.hid h6
    have K7 := Lib.hid h7
    have K8 := Lib.hid h8
    have KB := Lib.hid hB
    have KS := Lib.hid hsz
    have hlen9 : (pre ++ [y]).length = pre.length + 1 := by simp
    rw [rowV_some (show 0 < C by omega), Nat.zero_add]
    obtain ⟨a, ha⟩ : ∃ a, y.1 = a := ⟨_, rfl⟩
    have HYA := Lib.hid ha
    rw [ha] at hi9 HREL ⊢
    clear ha hok hP hrel h5 h6 h7 h8 hB hsz hyx
    have c5 := K5.out.cell
    have c7 := K7.out.cell
    have c8 := K8.out.cell
    by_cases han : a = n
    · have hne : ((a : Int) != (n : Int)) = false := by unfold bne; rw [show ((a : Int) == (n : Int)) = true by rw [beq_iff_eq]; omega]; rfl
      have bw := (Below.refl W.heap.size W).drew
      have HFIN := Lib.hid (show KeepsFrom W1.heap.size W W.drew ∧ KpM qb W W.drew ∧ (((∃ gp xs', OkM R C gp ∧ PrS W.drew B p (some ⟨q, 0, none⟩) N cap R C ⟨gp, e.piv ++ [k], F8⟩ (.slice (some ⟨fg, 0, none⟩) fn fc) (.slice (some ⟨fg4, 0, none⟩) fn4 fc4) xs' ps8 ∧ ((pre ++ [y]).map rix = List.range (pre ++ [y]).length → ∀ r b, r < R → b < C → gp r b = clP (dvG (exG e.g i n) n k) n k (pre ++ [y]).length k r b)) ∧ Boxed W.drew hh 3 (.int .i64 (k : Int)) ∧ Boxed W.drew (hh + 1) 4 (.bool false) ∧ Boxed W.drew (hh + 1 + 1) 3 (.int .i64 (n : Int)) ∧ Boxed W.drew p8 23 (.slice (some ⟨q, o3, none⟩) m m) ∧ qb < W.drew.heap.size) ∧ Below B w W.drew) from
        ⟨(KeepsOthers.of_grownBy (grown_of_below bw none) (fun j o e => by cases e)).from _, rfl, ⟨⟨gp, xs', KOK.out, KP.out.drew, fun h9 r b hr hb => by
          obtain ⟨h8, h7⟩ := HREL.out h9
          have h6 := rowC_clP hi9 hn hk h7 r b hr hb
          rw [han, rowC_self] at h6
          rw [h6, hlen9, ← h8, han]⟩, K5.out, K6.out, K7.out, K8.out, KS.out⟩, KB.out.drew⟩)
      clear bw
      have hd1 : decide (a = n) = true := decide_eq_true han
      have hd2 : (a == n) = true := beq_iff_eq.2 han
      have hd3 : ((a : Int) == (n : Int)) = true := by rw [beq_iff_eq]; omega
      have hd4 : decide ((a : Int) = (n : Int)) = true := decide_eq_true (by omega)
      clear han
      gi_upto_region 14 with fail
      refine wpIn_blind ?_
      gi_region_with (refine ⟨trivial, ?_⟩)
      all_goals gi_wp2_with fail
      all_goals exact HFIN.out
    · have hne : ((a : Int) != (n : Int)) = true := by unfold bne; rw [show ((a : Int) == (n : Int)) = false by rw [beq_eq_false_iff_ne]; omega]; rfl
      have hd1 : decide (a = n) = false := decide_eq_false han
      have hd2 : (a == n) = false := by rw [beq_eq_false_iff_ne]; exact han
      have hd3 : ((a : Int) == (n : Int)) = false := by rw [beq_eq_false_iff_ne]; omega
      have hd4 : decide ((a : Int) = (n : Int)) = false := decide_eq_false (by omega)
      have hkC : (k : Int) ≤ (C : Int) := by omega
      have hkC2 : ¬ C = k := by omega
      have hk0 : (0 : Int) ≤ (k : Int) := by omega
      obtain ⟨l9, hl9⟩ : ∃ x, a * C * 3 = x := ⟨_, rfl⟩
      obtain ⟨o1, ho1⟩ : ∃ x, l9 + k * 3 = x := ⟨_, rfl⟩
      have HO1 := Lib.hid (show (a * C + k) * 3 = o1 by rw [← ho1, ← hl9]; omega)
      have HCL := Lib.hid (clr_row (g := gp) (gp := gp) KOK.out hn hk hi9 han (fun _ => rfl) (fun _ => rfl))
      obtain ⟨cb, hcb⟩ : ∃ x, x = clrB (partL (tabM R C gp) (a * C + k) (C - k)) (partL (tabM R C gp) (n * C + k) (C - k)) := ⟨_, rfl⟩
      obtain ⟨cr, hcr⟩ : ∃ x, x = clrR (partL (tabM R C gp) (a * C + k) (C - k)) (partL (tabM R C gp) (n * C + k) (C - k)) := ⟨_, rfl⟩
      have OKP := Lib.hid (fun (r : Nat) (hr : r < R) => (show ∀ j (hj : j < (partL (tabM R C gp) (r * C + k) (C - k)).length), okF ((partL (tabM R C gp) (r * C + k) (C - k))[j]'hj) = true from fun j hj => by
        have hj2 : j < C - k := by rw [part_len hr hk] at hj; exact hj
        simp only [part_tab hr hk, List.getElem_map, List.getElem_range]
        exact KOK.out r (k + j) hr (by omega)))
      have HQW := Lib.hid (show B ≤ W.heap.size by have := K5.out.lt; omega)
      have HCF := Lib.hid (fun W' (hW : Below W.heap.size W W') => impl_clearFirst q N cap B (a * C + k) (n * C + k) (C - k) (C - k) (C - k) (tabM R C gp) xs' W' (KP.out.S.V'.below hW) (by omega) (by omega) (by rw [tabM_len]; exact part_in hi9 hk) (by rw [tabM_len]; exact part_in hn hk) ⟨Nat.le_refl _, by omega⟩ ⟨Nat.le_refl _, by omega⟩ (OKP.out a hi9) (OKP.out n hn) (Nat.le_trans HQW.out hW.size))
      rw [← hcb, ← hcr] at HCF HCL
      unfold partV at HCF
      rw [HO1.out, HO3.out, HM.out] at HCF
      obtain ⟨oq, hoq, hoc⟩ := KP.out.S.V'.cellsB q (.inl rfl)
      have HOQ := Lib.hid (And.intro hoq hoc)
      have HAN := Lib.hid han
      clear hcb hcr OKP hoq hoc han
      have HCT := Lib.hid (fun W' (hW : Below W.heap.size W W') => (callsIn_wide (n := 0)).2 ((HCF.out W' hW).mono (R' := fun e w' => e = .returned (.bool cb) ∧ (cb = true → ∃ ys, OwnV w' B (.slice (some ⟨q, 0, none⟩) N cap) (tabM R C (rowC n k a gp)) ys ∧ Kept (fun j => j = q) W' w' ∧ (∀ j, OnV (.slice (some ⟨q, 0, none⟩) N cap) ys j → OnV (.slice (some ⟨q, 0, none⟩) N cap) xs' j ∨ W'.heap.size ≤ j)) ∧ Kept (fun j => j = q) W' w' ∧ Below B W' w') (fun e w' ⟨he, hv, hk9, hb⟩ => by
        refine ⟨he, fun hcb => ?_, hk9, hb⟩
        obtain ⟨ys, v1, v2, v3⟩ := hv hcb
        rw [HCL.out.2, rowC_spl hk hi9 HAN.out] at v1
        exact ⟨ys, v1, v2, v3⟩)))
      have HZ9 := Lib.hid (show cb = false → (∃ x, x ≤ R ∧ (pre ++ [y]).map rix = List.range x) → ZF = false from fun hcb ⟨x, hx, hr⟩ => by
        have hxl : x = (pre ++ [y]).length := by
          have h9 := congrArg List.length hr
          rw [List.length_map, List.length_range] at h9
          exact h9.symm
        rw [hxl] at hr
        obtain ⟨h8, h7⟩ := HREL.out hr
        have hnot : ¬ ∀ b, k ≤ b → b < C → okF (clE gp n k a b) = true := fun hall => by
          have h6 := HCL.out.1.2 hall
          rw [hcb] at h6
          cases h6
        obtain ⟨b, h6⟩ := Classical.not_forall.1 hnot
        obtain ⟨h5, h6⟩ := Classical.not_imp.1 h6
        obtain ⟨h4, h6⟩ := Classical.not_imp.1 h6
        have e1 : gp a k = dvG (exG e.g i n) n k a k := by rw [h7 a k hi9 hk, clP_start]
        have e2 : gp n b = dvG (exG e.g i n) n k n b := by rw [h7 n b hn h4, clP_row]
        have e3 : gp a b = dvG (exG e.g i n) n k a b := by rw [h7 a b hi9 h4, clP_start]
        rw [HZF.out]
        refine use_badR HEO.out.ok HN0.out hi hn hk HPV.out hi9 HAN.out h4 h5 ?_
        intro h3
        apply h6
        unfold clE at h3 ⊢
        rw [e1, e2, e3]
        exact h3)
      have HFINT := Lib.hid (show ∀ w_c, cb = true → (cb = true → ∃ ys, OwnV w_c B (.slice (some ⟨q, 0, none⟩) N cap) (tabM R C (rowC n k a gp)) ys ∧ Kept (fun j => j = q) W.drew w_c ∧ (∀ j, OnV (.slice (some ⟨q, 0, none⟩) N cap) ys j → OnV (.slice (some ⟨q, 0, none⟩) N cap) xs' j ∨ W.drew.heap.size ≤ j)) → Below B W.drew w_c →
          KeepsFrom W1.heap.size W w_c ∧ KpM qb W w_c ∧ (((∃ gp xs', OkM R C gp ∧ PrS w_c B p (some ⟨q, 0, none⟩) N cap R C ⟨gp, e.piv ++ [k], F8⟩ (.slice (some ⟨fg, 0, none⟩) fn fc) (.slice (some ⟨fg4, 0, none⟩) fn4 fc4) xs' ps8 ∧ ((pre ++ [y]).map rix = List.range (pre ++ [y]).length → ∀ r b, r < R → b < C → gp r b = clP (dvG (exG e.g i n) n k) n k (pre ++ [y]).length k r b)) ∧ Boxed w_c hh 3 (.int .i64 (k : Int)) ∧ Boxed w_c (hh + 1) 4 (.bool false) ∧ Boxed w_c (hh + 1 + 1) 3 (.int .i64 (n : Int)) ∧ Boxed w_c p8 23 (.slice (some ⟨q, o3, none⟩) m m) ∧ qb < w_c.heap.size) ∧ Below B w w_c) from fun w_c hcb hv hb => by
        obtain ⟨ys, v1, v2, v3⟩ := hv hcb
        have KK : Kept (fun j => j = q) W w_c := ((Kept.refl _ W).drew).trans v2
        exact ⟨(KK.others2 HOQ.out.1 HOQ.out.2).from _, KK.block qb KS.out (by omega), ⟨⟨rowC n k a gp, ys, rowC_ok KOK.out (HCL.out.1.1 hcb), KP.out.cells v1 KK (fun b hb => .inl (by rw [hb]; rfl)) v3, fun h9 r b hr hb => by
          obtain ⟨h8, h7⟩ := HREL.out h9
          rw [rowC_clP hi9 hn hk h7 r b hr hb, hlen9, ← h8]⟩, boxed_keptK K5.out KK (by omega), boxed_keptK K6.out KK (by omega), boxed_keptK K7.out KK (by omega), boxed_keptK K8.out KK (by omega), Nat.lt_of_lt_of_le KS.out KK.size⟩, KB.out.drew.trans hb⟩)
      have HFINF := Lib.hid (show ∀ w_c, cb = false → Kept (fun j => j = q) W.drew w_c → Below B W.drew w_c →
          (KeepsFrom W1.heap.size W (w_c.setCell ⟨hh + 1, 0, none⟩ (.bool false)) ∧ ((Code.ret = .ret ∧ Boxed (w_c.setCell ⟨hh + 1, 0, none⟩ (.bool false)) (hh + 1) 4 (.bool false) ∧ ((∃ x, x ≤ R ∧ (pre ++ [y]).map rix = List.range x) → ZF = false)) ∧ Below B w (w_c.setCell ⟨hh + 1, 0, none⟩ (.bool false)))) from fun w_c hcb v2 hb => by
        have KK : Kept (fun j => j = q) W w_c := ((Kept.refl _ W).drew).trans v2
        have k6 := boxed_keptK K6.out KK (by omega)
        exact ⟨((KK.others2 HOQ.out.1 HOQ.out.2).trans (KeepsOthers.setCell _ _ _)).from _, ⟨rfl, k6.set _, HZ9.out hcb⟩, (KB.out.drew.trans hb).setCell (p := ⟨hh + 1, 0, none⟩) (by show B ≤ hh + 1; omega) _⟩)
      have HC6 := Lib.hid (show ∀ w_c, Kept (fun j => j = q) W.drew w_c → (w_c.cell? ⟨hh + 1, 0, none⟩ = some (.bool false) ∧ w_c.frozen? ⟨hh + 1, 0, none⟩ = false) from fun w_c v2 => by
        have KK : Kept (fun j => j = q) W w_c := ((Kept.refl _ W).drew).trans v2
        have k6 := boxed_keptK K6.out KK (by omega)
        exact ⟨k6.cell, k6.frozen⟩)
      clear HCF
      try clear HZ9
      try clear HREL
      try clear HCL
      try clear HAN
      try clear HOQ
      try clear KOK
      try clear KP
      try clear K5
      try clear K6
      try clear K7
      try clear K8
      try clear KB
      try clear KS
      try clear HYA
      try clear hlen9
      try clear HQW
      try clear HO1
      try clear HZF
      try clear HN
      try clear HB9
      try clear HEO
      try clear HPV
      try clear HN0
      try clear HH
      try clear FVL
      try clear PVL
      try clear HPL
      try clear HFX
      try clear FV3
      try clear HO3
      try clear HM
      try clear FV8
      try clear HF
      try clear HFK
      try clear HFN
      try clear HEG
      try clear HBP
      try clear HBQ
      try clear HE3
      try clear FV5
      try clear hf4
      try clear HOKG
      try clear HFNG
      try clear hlu
      try clear hQm
      try clear HLU
      try clear P9
      try clear DB
      try clear Y5
      try clear Y6
      try clear Y7
      try clear Y8
      try clear BB9
      try clear HOK2
      try clear HFE
      try clear hs0
      try clear hs9
      try clear hq9
      try clear hfl
      try clear hcap
      try clear hsz3
      try clear hp8
      try clear hp89
      try clear hpp9
      try clear hqp9
      try clear hBw
      try clear hwl
      try clear hpw
      try clear hB'
      gi_upto_region 14 with fail
      refine wpIn_blind ?_
      gi_region_with (first
        | ((try refine ⟨trivial, ?_⟩); gi_at_call 165; refine ((HCT.out _ (Below.refl _ _).drew).inRound l).mono ?_; rintro ee w_c ⟨rfl, hv, v2, hb⟩))
      all_goals obtain ⟨c6, f6⟩ := HC6.out w_c v2
      all_goals have HFT := Lib.hid (fun hcb => HFINT.out w_c hcb hv hb)
      all_goals have HFF := Lib.hid (fun hcb => HFINF.out w_c hcb v2 hb)
      all_goals clear HFINT HFINF HCT HC6 hv v2 hb c5 c7 c8
      all_goals (cases cb with
        | true =>
          gi_wp2_with fail
          obtain ⟨z1, z2, ⟨⟨gp9, xs9, z3, z4, z5⟩, z6, z7, z8, z9, z10⟩, z11⟩ := HFT.out (by trivial)
          first | exact ⟨z1, z2, ⟨⟨gp9, z3, ⟨xs9, z4⟩, z5⟩, z6, z7, z8, z9, z10⟩, z11⟩ | exact ⟨z1, z2, ⟨⟨gp9, xs9, z3, z4, z5⟩, z6, z7, z8, z9, z10⟩, z11⟩
        | false =>
          gi_wp2_with fail
          obtain ⟨z1, ⟨_, z3, z4⟩, z5⟩ := HFF.out (by trivial)
          first | exact ⟨z1, ⟨rfl, z3, fun x h7 h8 => z4 ⟨x, h7, h8⟩⟩, z5⟩ | exact ⟨z1, ⟨rfl, z3, z4⟩, z5⟩)
  case done =>
    rintro D ys W hD hS ⟨⟨⟨gp, xs', hok, hP, hrel⟩, h5, h6, h7, h8, hsz⟩, hB⟩ hK
    have hlen : ys.length = R := by
      have h9 := congrArg List.length hS
      rw [List.length_map, List.length_range] at h9
      exact h9
    rw [hlen] at hrel
    have hgp := hrel hS
    have HZ9 := Lib.hid (show ZF = true by
      rw [HZF.out]
      refine use_fine HEO.out.ok HN0.out hi hn hk HPV.out (fun b h1 h2 => ?_) (fun a ha han b h1 h2 => ?_)
      · have h9 := hok n b hn h2
        rw [hgp n b hn h2, clP_row] at h9
        exact h9
      · have h9 := hok a b ha h2
        rw [hgp a b ha h2] at h9
        have h8 : clP (dvG (exG e.g i n) n k) n k R k a b = clE (dvG (exG e.g i n) n k) n k a b := by unfold clP; rw [if_pos ⟨han, h1, .inl ha⟩]
        rw [h8] at h9
        exact h9)
    obtain rfl : ZF = true := HZ9.out
    have HPF := Lib.hid (show PrS W B p (some ⟨q, 0, none⟩) N cap R C (useE e i k) (.slice (some ⟨fg, 0, none⟩) fn fc) (.slice (some ⟨fg4, 0, none⟩) fn4 fc4) xs' ps8 by
      have h9 := hP.re (g' := (useE e i k).g) ((tabM_congr hgp).trans ((clP_end _ n k k).trans (by unfold useE; rw [HN0.out])))
      rw [HFE.out] at h9
      exact h9)
    have K0 := Lib.hid h6
    have KB := Lib.hid hB
    have HK := Lib.hid hK
    have HDD := Lib.hid hD
    have c1 := h6.cell
    have f1 := h6.frozen
    clear hS hB hK hD hsz hok hP hrel hgp h5 h6 h7 h8
    go_wp2
    have hK' := (KeepsOthers.setCell W ⟨hh + 1, 0, none⟩ (.bool true)).same D _ HK.out rfl
    have e1 := boxed_shut (K0.out.set (.bool true)) hK'
    have hBl := KB.out.setCell (p := ⟨hh + 1, 0, none⟩) (by show B ≤ hh + 1; omega) (.bool true)
    have hpF := (PrS.setB HPF.out K0.out (by decide) (by decide) (by decide) (.bool true)).shut hK'
    refine ⟨by simp, .inl ⟨_, _, rfl, run_takeDeferred hK', ?_⟩⟩
    refine ⟨.bool true, ?_, ?_⟩
    · simp [results, Tryz.f140, go_sem, e1]
    · have b9 := below_shut (D := D) hBl (by have := HDD.out; omega) (by have := hBl.size; have := HB9.out; omega)
      first | exact ⟨rfl, fun _ => ⟨_, _, _, _, hpF⟩, b9⟩ | exact ⟨rfl, ⟨_, _, _, _, hpF⟩, b9⟩ | exact ⟨⟨_, _, _, _, hpF⟩, b9⟩
  case stop =>
    rintro D c pre W hD hSp ⟨⟨rfl, h6, hzf⟩, hB⟩ hK
    obtain rfl : ZF = false := hzf hSp
    have e1 := boxed_shut h6 hK
    gi_wp2
    refine ⟨by simp, .inl ⟨_, _, rfl, run_takeDeferred hK, ?_⟩⟩
    refine ⟨.bool false, ?_, ?_⟩
    · simp [results, Tryz.f140, go_sem, e1]
    · have b9 := below_shut (D := D) hB (by omega) (by have := hB.size; have := HB9.out; omega)
      first | exact ⟨rfl, (fun h => by cases h), b9⟩ | exact ⟨rfl, b9⟩
end Go.Proofs.YtlepgkkpopjgoaaGreat
namespace Go.Proofs.YtlepgkkpopjgoaaGreat
open Go.RowKit Go.WideShapes Go.ChangeShapes
set_option linter.unusedVariables false
set_option linter.unusedSimpArgs false
theorem impl_elim (R C n cap : Nat) (a : Option Addr) (L : List Fr) (w : World) (h : RatsAt w (.slice a n cap) L) (hL : L.length = n) (hN : n = R * C) (hR : R ≤ 24) (hC : C ≤ 24) (hok : ∀ k (hk : k < L.length), ratOk (L[k]'hk).neg (L[k]'hk).mag (L[k]'hk).den = true) :
  Calls Tryz.prog 58 #[.agg #[.int .i64 (R : Int), .int .i64 (C : Int), .slice a n cap]] w fun r w' => ∃ p, r = .returned (.tuple #[.pointer (some ⟨p, 0, none⟩), .bool (fineG R C (runE R C C (startE L C)).g)]) ∧ (fineG R C (runE R C C (startE L C)).g = true → ∃ g pv fv xs ps, PrS w' w.heap.size p (some ⟨g, 0, none⟩) n n R C (runE R C C (startE L C)) pv fv xs ps) ∧ Below w.heap.size w w' :=
 impl_eliminateH (fun p q N cap B R C i k e pv fv xs ps w h EO hN hR hC hi hn hk hp hB => impl_use p q N cap B R C i k e pv fv xs ps w h EO hN hR hC hi hn hk hp hB) R C n cap a L w h hL hN hR hC hok (all_okF hok)
end Go.Proofs.YtlepgkkpopjgoaaGreat
namespace Go.Proofs.YtlepgkkpopjgoaaGreat
open Go.RowKit Go.WideShapes Go.ChangeShapes
set_option linter.unusedVariables false
set_option linter.unusedSimpArgs false
theorem ok_one : okF oF = true := by
 show ratOk false [1] [1] = true
 rw [← limI_1, ratOk_make (Nat.lt_of_lt_of_le (by decide : 1 < pw 1) (pw_mono (by omega))) (Nat.lt_of_lt_of_le (by decide : 1 < pw 1) (pw_mono (by omega))) (by omega) (by intro h; cases h)]
 exact decide_eq_true (by simp)
theorem B3.lows {w w' : World} {p n : Nat} {t : TypeId} {x y z : Value} (h : B3 w p t x y z) (hb : Below n w w') (hp : p < n) : B3 w' p t x y z := (hb.block p hp).trans h
theorem Rx.lows {w w' : World} {p n : Nat} {t : TypeId} {b : Bool} {v d : Value} (h : Rx w p t b v d) (hb : Below n w w') (hp : p < n) : Rx w' p t b v d := (hb.block p hp).trans h
end Go.Proofs.YtlepgkkpopjgoaaGreat
