/- FnMatrices: matrix products are associative, and transposition reverses them. -/
import Derived.Test.YtojklmckjebplaaMatFacts
import Derived.Test.YtojklmckjebplaaMatIrow
import Derived.Test.YtojklmckjebplaaMatIeq
import Derived.Test.YtojklmckjebplaaVecEq
import Derived.Test.YtojklmckjebplaaRatEq2
import Derived.Deep.CutBlock
import Derived.Deep.CutRange
import Derived.Deep.RegionHeld3
import Derived.Deep.RegionWith
import Derived.ProofKit
import Derived.OpenShut
namespace Go.Proofs.Ytojklmckjebplaa
open Go.RowKit Go.WideShapes Go.ChangeShapes
set_option linter.unusedVariables false
set_option linter.unusedSimpArgs false
def eqF (f g : Fr) : Bool := ratEqB f.neg f.mag f.den g.neg g.mag g.den
theorem impl_equalVL (v0 : Value) (L0 : List Fr) (v1 : Value) (L1 : List Fr) (w : World) (h0 : RatsAt w v0 L0) (h1 : RatsAt w v1 L1) : Calls Try.prog 17 #[v0, v1] w fun e w' => e = .returned (.bool (eqV eqF L0 L1)) ∧ Below w.heap.size w w' :=
  impl_equalV eqF (fun f g v d v' d' w h h' => impl_ratEqualR f.neg v f.mag d f.den g.neg v' g.mag d' g.den w h h') v0 L0 v1 L1 w h0 h1

/-- a []byte that came in, as a row -/
theorem bytes_in {H : Type} {enc : TypeId × Value → H} {W : World} {a : Option Addr} {l c : Nat} {d : DataW H} {p : List MemPlace}
    (h : DataW.Trod enc Try.prog W 0 (fun _ => true) true 22 (Value.slice a l c) d p) : ∃ bs, RowOf u8V W (.slice a l c) bs ∧ True := by
  obtain ⟨fuel, hf⟩ := h
  rcases open_ints Try.underlying22 Try.underlying5 (by kernel_rfl) hf with ⟨hcs, _⟩ | ⟨x, l', c', zs, hcs, _, hl, hm, hz, _, hcell, hwz⟩
  · simp [Value.cells] at hcs
    obtain ⟨rfl, rfl, rfl⟩ := hcs
    exact ⟨[], ⟨none, 0, rfl, by simp, by unfold maxLen; omega, fun i hi => by simp at hi⟩, trivial⟩
  · simp [Value.cells] at hcs
    obtain ⟨rfl, rfl, rfl⟩ := hcs
    have hz' : zs.length = c := by simpa using hz
    have hlt : ((zs.take l).map (fun z => UInt8.ofNat z.toNat)).length = l := by simp; omega
    refine ⟨(zs.take l).map (fun z => UInt8.ofNat z.toNat), ⟨some x, c, by rw [hlt], by omega, hm, fun i hi => ?_⟩, trivial⟩
    have hi' : i < zs.length := by omega
    obtain ⟨b, o, spot⟩ := x
    have h0 := hcell 0 (by omega)
    have hspot : spot = none := by simpa [Addr.add] using World.cell?_spot h0
    subst hspot
    refine ⟨b, o, rfl, ?_⟩
    have hc := hcell i hi'
    rw [add_plain] at hc
    rw [hc]
    have hw := hwz (zs[i]'hi') (List.getElem_mem hi')
    have hb : 0 ≤ zs[i]'hi' ∧ zs[i]'hi' ≤ 255 := by simpa [Lit.wf, IntKind.min, IntKind.max, IntKind.signed, IntKind.bits] using hw
    have hg : zs.getD i 0 = zs[i]'hi' := by simp [List.getD, hi']
    rw [hg]
    unfold u8V
    simp only [List.getElem_map, List.getElem_take, UInt8.toNat_ofNat']
    congr 2
    omega

theorem ratsAt_alloc {w : World} {v : Value} {L : List Fr} (h : RatsAt w v L) (o : Obj) : RatsAt (w.alloc o) v L := h.below ((Below.refl _ _).alloc (Nat.le_refl _) _)
theorem ratsAt_drew {w : World} {v : Value} {L : List Fr} (h : RatsAt w v L) : RatsAt w.drew v L := h
theorem trq {r c R C : Int} {L Z : List Fr} (hz : tpR ratOk r c L = R ∧ tpC ratOk r c L = C ∧ tpL ratOk r c L = Z) {n : Nat} (hn : Z.length = n) (v : Value) (wk W : World) (h : RatsAt W v L) (hW : Below wk.heap.size wk W) :
    Calls Try.prog 15 #[.agg #[.int .i64 r, .int .i64 c, v]] W fun e w' => ∃ a k, e = .returned (.agg #[.int .i64 R, .int .i64 C, .slice a n k]) ∧ RatsAt w' (.slice a n k) Z ∧ Below W.heap.size W w' ∧ Below wk.heap.size wk w' := by
  obtain ⟨e1, e2, e3⟩ := hz
  have T := impl_transposeH ratOk (fun v L w h => impl_isV v L w h) impl_cloneF r c v L W h
  rw [e1, e2, e3] at T
  refine T.mono ?_
  rintro e w' ⟨u, xs, rfl, o, b⟩
  obtain ⟨a, k, rfl⟩ := o.slice
  rw [hn] at o ⊢
  exact ⟨a, k, rfl, o.rats, b, hW.trans (b.mono hW.size)⟩
theorem muq {r0 c0 r1 c1 R C : Int} {L0 L1 Z : List Fr} (hz : mpB ratOk innV r0 c0 L0 r1 c1 L1 = true ∧ mpR ratOk innV r0 c0 L0 r1 c1 L1 = R ∧ mpC ratOk innV r0 c0 L0 r1 c1 L1 = C ∧ mpL ratOk innV r0 c0 L0 r1 c1 L1 = Z) {n : Nat} (hn : Z.length = n) (v0 v1 : Value) (wk W : World) (h0 : RatsAt W v0 L0) (h1 : RatsAt W v1 L1) (hW : Below wk.heap.size wk W) :
    Calls Try.prog 14 #[.agg #[.int .i64 r0, .int .i64 c0, v0], .agg #[.int .i64 r1, .int .i64 c1, v1]] W fun e w' => ∃ a k xs, e = .returned (.tuple #[.agg #[.int .i64 R, .int .i64 C, .slice a n k], .bool true]) ∧ OwnV w' W.heap.size (.slice a n k) Z xs ∧ Below W.heap.size W w' ∧ Below wk.heap.size wk w' := by
  obtain ⟨e1, e2, e3, e4⟩ := hz
  have T := impl_multiply r0 c0 v0 L0 r1 c1 v1 L1 W h0 h1
  rw [e1, e2, e3, e4] at T
  refine T.mono ?_
  rintro e w' ⟨u, xs, rfl, o, b⟩
  obtain ⟨a, k, rfl⟩ := o.slice
  rw [hn] at o ⊢
  exact ⟨a, k, xs, rfl, o, b, hW.trans (b.mono hW.size)⟩
theorem amq {r c : Int} {L V Z : List Fr} (hz : amB ratOk innV r c L V = true ∧ amL ratOk innV r c L V = Z) {n : Nat} (hn : Z.length = n) (v u : Value) (w : World) (h : RatsAt w v L) (h' : RatsAt w u V) :
    Calls Try.prog 16 #[.agg #[.int .i64 r, .int .i64 c, v], u] w fun e w' => ∃ a k, e = .returned (.tuple #[.slice a n k, .bool true]) ∧ RatsAt w' (.slice a n k) Z ∧ Below w.heap.size w w' := by
  obtain ⟨e1, e2⟩ := hz
  have T := impl_applyMatrix r c v L u V w h h'
  rw [e1, e2] at T
  refine T.mono ?_
  rintro e w' ⟨u, xs, rfl, o, b⟩
  obtain ⟨a, k, rfl⟩ := o.slice
  rw [hn] at o ⊢
  exact ⟨a, k, rfl, o.rats, b⟩
theorem listB_self (xs : List Int) : listB xs xs = true := by unfold listB; simp
theorem ratEqB_self (b : Bool) (xs ds : List Int) : ratEqB b xs ds b xs ds = true := by unfold ratEqB; rw [listB_self, listB_self]; simp
theorem eqV_self (L : List Fr) : eqV eqF L L = true := by
  unfold eqV
  rw [decide_eq_true rfl, Bool.true_and, List.all_eq_true]
  intro x hx
  obtain ⟨i, hi, rfl⟩ := List.getElem_of_mem hx
  rw [List.getElem_zipWith]
  exact ratEqB_self _ _ _
theorem eqM_self (r c : Int) (L : List Fr) : eqM (eqV eqF) r c L r c L = true := by unfold eqM; rw [eqV_self]; simp
theorem ratsAt_drop {w : World} {b o n cap : Nat} {L : List Fr} (h : RatsAt w (.slice (some ⟨b, o, none⟩) n cap) L) (k m : Nat) (hk : k < n) (hm : m = n - k) : RatsAt w (.slice (some ⟨b, o + k * 3, none⟩) m (cap - k)) (L.drop k) := by
  obtain ⟨a, cap', e, h1, h2, h3⟩ := h
  injection e with e1 e2 e3
  subst e1; subst e3
  refine ⟨some ⟨b, o + k * 3, none⟩, cap - k, by rw [List.length_drop, ← e2, hm], by rw [List.length_drop]; omega, by omega, fun i hi => ?_⟩
  rw [List.length_drop] at hi
  obtain ⟨b', o', x, y, e, k0, k1, k2, hr⟩ := h3 (k + i) (by omega)
  injection e with e; injection e with e e' e''; subst e; subst e'
  simp only [List.getElem_drop]
  have q : o + k * 3 + i * 3 = o + (k + i) * 3 := by omega
  exact ⟨b, o + k * 3, x, y, rfl, by rw [q]; exact k0, by rw [q]; exact k1, by rw [q]; exact k2, hr⟩
theorem pwM {f : Nat} {args : Array Value} {W wk : World} {r : Value} (h : Calls Try.prog f args W fun e w' => e = .returned r ∧ Below W.heap.size W w') (hW : Below wk.heap.size wk W) :
    Calls Try.prog f args W fun e w' => e = .returned r ∧ Below W.heap.size W w' ∧ Below wk.heap.size wk w' :=
  h.mono (fun _ _ ⟨e, b⟩ => ⟨e, b, hW.trans (b.mono hW.size)⟩)
theorem roq {r c i : Int} {L Z : List Fr} (hz : rowL ratOk r c L i = Z) {n : Nat} (hn : Z.length = n) (v : Value) (wk W : World) (h : RatsAt W v L) (hW : Below wk.heap.size wk W) :
    Calls Try.prog 20 #[.agg #[.int .i64 r, .int .i64 c, v], .int .i64 i] W fun e w' => ∃ a k, e = .returned (.slice a n k) ∧ RatsAt w' (.slice a n k) Z ∧ Below W.heap.size W w' ∧ Below wk.heap.size wk w' := by
  have T := impl_rowOf ratOk (fun v L w h => impl_isV v L w h) impl_cloneF r c i v L W h
  rw [hz] at T
  refine T.mono ?_
  rintro e w' ⟨u, xs, rfl, o, b⟩
  obtain ⟨a, k, rfl⟩ := o.slice
  rw [hn] at o ⊢
  exact ⟨a, k, rfl, o.rats, b, hW.trans (b.mono hW.size)⟩
theorem ceq {r c i k : Int} {L : List Fr} {f : Fr} (hz : cellF ratOk r c L i k = f) (v : Value) (wk W : World) (h : RatsAt W v L) (hW : Below wk.heap.size wk W) :
    Calls Try.prog 22 #[.agg #[.int .i64 r, .int .i64 c, v], .int .i64 i, .int .i64 k] W fun e w' => ∃ x y, e = .returned (.agg #[.bool f.neg, x, y]) ∧ RowR w' x f.mag y f.den ∧ Below W.heap.size W w' ∧ Below wk.heap.size wk w' := by
  have T := impl_cellAt ratOk (fun v L w h => impl_isV v L w h) impl_cloneF r c i k v L W h
  rw [hz] at T
  refine T.mono ?_
  rintro e w' ⟨x, y, rfl, o, b⟩
  exact ⟨x, y, rfl, o.row, b, hW.trans (b.mono hW.size)⟩
theorem RowR.drew {w : World} {x y : Value} {l m : List Int} (h : RowR w x l y m) : RowR w.drew x l y m := h
set_option maxRecDepth 100000 in
set_option maxHeartbeats 4000000 in
theorem law_matrices (w : World) (v : Value) (bs : List UInt8) (hrow : RowOf u8V w v bs) (_ : True) :
    Calls Try.prog 3 #[v] w fun e w' => e = .returned (.bool true) ∧ Below w.heap.size w w' := by
  have HR := Lib.hid hrow
  obtain ⟨a, c, rfl, hc, hm, hr⟩ := hrow
  clear hr
  unfold maxLen at hm
  obtain ⟨n, hn⟩ : ∃ n, bs.length = n := ⟨_, rfl⟩
  rw [hn] at hc HR ⊢
  have HN := Lib.hid hn
  clear hn
  by_cases hl : n ≤ 1048576
  rotate_left
  · go_enter Try.func3, Try.ntmps3
    go_wp2
    go_ret
    exact ⟨rfl, Below.refl _ _⟩
  go_enter Try.func3, Try.ntmps3
  go_wp2_with fail
  refine (make_mat _ bs 1 2 3 6 (by omega) (by rfl) (by omega) (by omega) _ HR.out (by rw [HN.out]; exact hl) (by omega)).mono ?_
  rintro e w1 ⟨uA, LA, xA, rfl, hA, sA, oA, b1⟩
  obtain ⟨aA, cA, rfl⟩ := oA.slice
  rw [hA] at oA ⊢
  have RA := Lib.hid oA.rats
  have SA := Lib.hid (And.intro hA sA)
  have B1 := Lib.hid b1
  clear oA hA sA b1
  go_wp2_with fail
  obtain ⟨p3, hp3⟩ : ∃ p, p = w1.heap.size := ⟨_, rfl⟩
  obtain ⟨W1, hW1⟩ : ∃ x, x = w1.alloc (.cells #[.int .i64 2, .int .i64 3, .slice aA 6 cA] 25) := ⟨_, rfl⟩
  have D3 := Lib.hid (show B3 W1 p3 25 (.int .i64 2) (.int .i64 3) (.slice aA 6 cA) by rw [hW1, hp3]; exact B3.new _ _ _ _ _)
  have b1 := (show Below w1.heap.size w1 W1 by rw [hW1]; exact (Below.refl _ _).alloc (Nat.le_refl _) _)
  replace RA := Lib.hid (RA.out.below b1)
  replace B1 := Lib.hid (B1.out.trans (b1.mono B1.out.size))
  rw [← hW1, ← hp3]
  clear hW1 hp3 b1
  refine (make_mat _ bs 20 3 2 6 (by omega) (by rfl) (by omega) (by omega) _ (rowOf_below HR.out B1.out) (by rw [HN.out]; exact hl) (by omega)).mono ?_
  rintro e w2 ⟨uB, LB, xB, rfl, hB, sB, oB, b2⟩
  obtain ⟨aB, cB, rfl⟩ := oB.slice
  rw [hB] at oB ⊢
  replace RA := Lib.hid (RA.out.below b2)
  replace D3 := Lib.hid (D3.out.below b2)
  have RB := Lib.hid oB.rats
  have SB := Lib.hid (And.intro hB sB)
  replace B1 := Lib.hid (B1.out.trans (b2.mono B1.out.size))
  clear oB hB sB b2
  go_wp2_with fail
  obtain ⟨p4, hp4⟩ : ∃ p, p = w2.heap.size := ⟨_, rfl⟩
  obtain ⟨W2, hW2⟩ : ∃ x, x = w2.alloc (.cells #[.int .i64 3, .int .i64 2, .slice aB 6 cB] 25) := ⟨_, rfl⟩
  have D4 := Lib.hid (show B3 W2 p4 25 (.int .i64 3) (.int .i64 2) (.slice aB 6 cB) by rw [hW2, hp4]; exact B3.new _ _ _ _ _)
  have b2 := (show Below w2.heap.size w2 W2 by rw [hW2]; exact (Below.refl _ _).alloc (Nat.le_refl _) _)
  replace RA := Lib.hid (RA.out.below b2)
  replace RB := Lib.hid (RB.out.below b2)
  replace D3 := Lib.hid (D3.out.below b2)
  replace B1 := Lib.hid (B1.out.trans (b2.mono B1.out.size))
  rw [← hW2, ← hp4]
  clear hW2 hp4 b2
  refine (make_vec _ bs 40 2 (by omega) _ (rowOf_below HR.out B1.out) (by rw [HN.out]; exact hl) (by omega)).mono ?_
  rintro e w3 ⟨uV, LV, xV, rfl, hV, sV, oV, b3⟩
  obtain ⟨aV, cV, rfl⟩ := oV.slice
  rw [hV] at oV ⊢
  replace RA := Lib.hid (RA.out.below b3)
  replace RB := Lib.hid (RB.out.below b3)
  replace D3 := Lib.hid (D3.out.below b3)
  replace D4 := Lib.hid (D4.out.below b3)
  have RV := Lib.hid oV.rats
  replace B1 := Lib.hid (B1.out.trans (b3.mono B1.out.size))
  obtain ⟨AB, TB, TA, BA, X, Y, hF, nAB, nTB, nTA, nBA, nX, nY⟩ := mat_facts LA LB LV SA.out.1 SB.out.1 hV SA.out.2 SB.out.2 sV
  have F := Lib.hid hF
  have HAB := Lib.hid nAB
  have HTB := Lib.hid nTB
  have HTA := Lib.hid nTA
  have HBA := Lib.hid nBA
  have HX := Lib.hid nX
  have HY := Lib.hid nY
  clear oV hV sV b3 hF nAB nTB nTA nBA nX nY HR HN
  have d0 := D3.out.c0
  have d1 := D3.out.c1
  have d2 := D3.out.c2
  have e0 := D4.out.c0
  have e1 := D4.out.c1
  have e2 := D4.out.c2
  go_wp2_with fail
  have T := impl_multiply 2 3 _ LA 3 2 _ LB w3 RA.out RB.out
  rw [F.out.p1.1, F.out.p1.2.1, F.out.p1.2.2.1, F.out.p1.2.2.2] at T
  refine T.mono ?_
  rintro e w4 ⟨u4, x4, rfl, o4, b4⟩
  obtain ⟨a6, c6, rfl⟩ := o4.slice
  rw [HAB.out] at o4 ⊢
  replace RA := Lib.hid (RA.out.below b4)
  replace RB := Lib.hid (RB.out.below b4)
  replace RV := Lib.hid (RV.out.below b4)
  replace D3 := Lib.hid (D3.out.below b4)
  replace D4 := Lib.hid (D4.out.below b4)
  have R6 := Lib.hid o4.rats
  replace B1 := Lib.hid (B1.out.trans (b4.mono B1.out.size))
  clear T o4 b4 d0 d1 d2 e0 e1 e2
  go_upto_region 7 with fail
  obtain ⟨p6, hp6⟩ : ∃ p, p = w4.heap.size := ⟨_, rfl⟩
  obtain ⟨W4, hW4⟩ : ∃ x, x = w4.alloc (.cells #[.int .i64 2, .int .i64 2, .slice a6 4 c6] 25) := ⟨_, rfl⟩
  have D6 := Lib.hid (show B3 W4 p6 25 (.int .i64 2) (.int .i64 2) (.slice a6 4 c6) by rw [hW4, hp6]; exact B3.new _ _ _ _ _)
  have b4 := (show Below w4.heap.size w4 W4 by rw [hW4]; exact (Below.refl _ _).alloc (Nat.le_refl _) _)
  replace RA := Lib.hid (RA.out.below b4)
  replace RB := Lib.hid (RB.out.below b4)
  replace RV := Lib.hid (RV.out.below b4)
  replace R6 := Lib.hid (R6.out.below b4)
  replace D3 := Lib.hid (D3.out.below b4)
  replace D4 := Lib.hid (D4.out.below b4)
  replace B1 := Lib.hid (B1.out.trans (b4.mono B1.out.size))
  rw [← hW4, ← hp6]
  clear hW4 hp6 b4
  have d0 := D3.out.c0
  have d1 := D3.out.c1
  have d2 := D3.out.c2
  have e0 := D4.out.c0
  have e1 := D4.out.c1
  have e2 := D4.out.c2
  have lt3 := D3.out.lt
  have lt4 := D4.out.lt
  have HS := Lib.hid (show ∀ W : World, Below W4.heap.size W4 W → (W.cell? ⟨p3, 0, none⟩ = some (.int .i64 2) ∧ W.cell? ⟨p3, 1, none⟩ = some (.int .i64 3) ∧ W.cell? ⟨p3, 2, none⟩ = some (.slice aA 6 cA) ∧ W.cell? ⟨p4, 0, none⟩ = some (.int .i64 3) ∧ W.cell? ⟨p4, 1, none⟩ = some (.int .i64 2) ∧ W.cell? ⟨p4, 2, none⟩ = some (.slice aB 6 cB)) from fun W hW => ⟨(D3.out.below hW).c0, (D3.out.below hW).c1, (D3.out.below hW).c2, (D4.out.below hW).c0, (D4.out.below hW).c1, (D4.out.below hW).c2⟩)
  have KB := Lib.hid (fun (W : World) (hW : Below W4.heap.size W4 W) => trq F.out.t1 HTB.out _ W4 W (RB.out.below hW) hW)
  have KA := Lib.hid (fun (W : World) (hW : Below W4.heap.size W4 W) => trq F.out.t2 HTA.out _ W4 W (RA.out.below hW) hW)
  have KM := Lib.hid (fun (W : World) (hW : Below W4.heap.size W4 W) a k a' k' h0 h1 => muq F.out.p2 HBA.out (.slice a 6 k) (.slice a' 6 k') W4 W h0 h1 hW)
  go_cut [8, 9] from 32 (fun q0 q1 wc => ∃ (p : Nat) (a : Option Addr) (k : Nat), q0 = .pointer (some ⟨p, 0, none⟩) ∧ q1 = .bool true ∧ Hid (B3 wc p 25 (.int .i64 2) (.int .i64 2) (.slice a 4 k)) ∧ Hid (RatsAt wc (.slice a 4 k) BA) ∧ Hid (Below W4.heap.size W4 wc))
  case first =>
    go_region_held3 (fun w' => w'.cell? ⟨p3, 0, none⟩ = some (.int .i64 2) ∧ w'.cell? ⟨p3, 1, none⟩ = some (.int .i64 3) ∧ w'.cell? ⟨p3, 2, none⟩ = some (.slice aA 6 cA) ∧ w'.cell? ⟨p4, 0, none⟩ = some (.int .i64 3) ∧ w'.cell? ⟨p4, 1, none⟩ = some (.int .i64 2) ∧ w'.cell? ⟨p4, 2, none⟩ = some (.slice aB 6 cB)) (first | exact HS.out _ (by first | with_reducible exact Below.refl _ _ | with_reducible exact (Below.refl _ _).drew | with_reducible exact (Below.refl _ _).alloc (Nat.le_refl _) _ | with_reducible exact ((Below.refl _ _).alloc (Nat.le_refl _) _).drew | with_reducible exact bb_m | with_reducible exact (bb_m).drew | with_reducible exact bb_a | with_reducible exact (bb_a).drew | with_reducible exact bb_b | with_reducible exact (bb_b).drew | with_reducible exact bb_m.alloc bb_m.size _ | with_reducible exact (bb_m.alloc bb_m.size _).drew | with_reducible exact bb_a.alloc bb_a.size _ | with_reducible exact (bb_a.alloc bb_a.size _).drew | with_reducible exact bb_b.alloc bb_b.size _ | with_reducible exact (bb_b.alloc bb_b.size _).drew | fail) | exact ⟨(cell_far3 (show p3 ≠ _ from fun e => absurd pz (by omega)) _ _ _).trans ((HS.out _ (by first | with_reducible exact Below.refl _ _ | with_reducible exact (Below.refl _ _).drew | with_reducible exact (Below.refl _ _).alloc (Nat.le_refl _) _ | with_reducible exact ((Below.refl _ _).alloc (Nat.le_refl _) _).drew | with_reducible exact bb_m | with_reducible exact (bb_m).drew | with_reducible exact bb_a | with_reducible exact (bb_a).drew | with_reducible exact bb_b | with_reducible exact (bb_b).drew | with_reducible exact bb_m.alloc bb_m.size _ | with_reducible exact (bb_m.alloc bb_m.size _).drew | with_reducible exact bb_a.alloc bb_a.size _ | with_reducible exact (bb_a.alloc bb_a.size _).drew | with_reducible exact bb_b.alloc bb_b.size _ | with_reducible exact (bb_b.alloc bb_b.size _).drew | fail)).1), (cell_far3 (show p3 ≠ _ from fun e => absurd pz (by omega)) _ _ _).trans ((HS.out _ (by first | with_reducible exact Below.refl _ _ | with_reducible exact (Below.refl _ _).drew | with_reducible exact (Below.refl _ _).alloc (Nat.le_refl _) _ | with_reducible exact ((Below.refl _ _).alloc (Nat.le_refl _) _).drew | with_reducible exact bb_m | with_reducible exact (bb_m).drew | with_reducible exact bb_a | with_reducible exact (bb_a).drew | with_reducible exact bb_b | with_reducible exact (bb_b).drew | with_reducible exact bb_m.alloc bb_m.size _ | with_reducible exact (bb_m.alloc bb_m.size _).drew | with_reducible exact bb_a.alloc bb_a.size _ | with_reducible exact (bb_a.alloc bb_a.size _).drew | with_reducible exact bb_b.alloc bb_b.size _ | with_reducible exact (bb_b.alloc bb_b.size _).drew | fail)).2.1), (cell_far3 (show p3 ≠ _ from fun e => absurd pz (by omega)) _ _ _).trans ((HS.out _ (by first | with_reducible exact Below.refl _ _ | with_reducible exact (Below.refl _ _).drew | with_reducible exact (Below.refl _ _).alloc (Nat.le_refl _) _ | with_reducible exact ((Below.refl _ _).alloc (Nat.le_refl _) _).drew | with_reducible exact bb_m | with_reducible exact (bb_m).drew | with_reducible exact bb_a | with_reducible exact (bb_a).drew | with_reducible exact bb_b | with_reducible exact (bb_b).drew | with_reducible exact bb_m.alloc bb_m.size _ | with_reducible exact (bb_m.alloc bb_m.size _).drew | with_reducible exact bb_a.alloc bb_a.size _ | with_reducible exact (bb_a.alloc bb_a.size _).drew | with_reducible exact bb_b.alloc bb_b.size _ | with_reducible exact (bb_b.alloc bb_b.size _).drew | fail)).2.2.1), (cell_far3 (show p4 ≠ _ from fun e => absurd pz (by omega)) _ _ _).trans ((HS.out _ (by first | with_reducible exact Below.refl _ _ | with_reducible exact (Below.refl _ _).drew | with_reducible exact (Below.refl _ _).alloc (Nat.le_refl _) _ | with_reducible exact ((Below.refl _ _).alloc (Nat.le_refl _) _).drew | with_reducible exact bb_m | with_reducible exact (bb_m).drew | with_reducible exact bb_a | with_reducible exact (bb_a).drew | with_reducible exact bb_b | with_reducible exact (bb_b).drew | with_reducible exact bb_m.alloc bb_m.size _ | with_reducible exact (bb_m.alloc bb_m.size _).drew | with_reducible exact bb_a.alloc bb_a.size _ | with_reducible exact (bb_a.alloc bb_a.size _).drew | with_reducible exact bb_b.alloc bb_b.size _ | with_reducible exact (bb_b.alloc bb_b.size _).drew | fail)).2.2.2.1), (cell_far3 (show p4 ≠ _ from fun e => absurd pz (by omega)) _ _ _).trans ((HS.out _ (by first | with_reducible exact Below.refl _ _ | with_reducible exact (Below.refl _ _).drew | with_reducible exact (Below.refl _ _).alloc (Nat.le_refl _) _ | with_reducible exact ((Below.refl _ _).alloc (Nat.le_refl _) _).drew | with_reducible exact bb_m | with_reducible exact (bb_m).drew | with_reducible exact bb_a | with_reducible exact (bb_a).drew | with_reducible exact bb_b | with_reducible exact (bb_b).drew | with_reducible exact bb_m.alloc bb_m.size _ | with_reducible exact (bb_m.alloc bb_m.size _).drew | with_reducible exact bb_a.alloc bb_a.size _ | with_reducible exact (bb_a.alloc bb_a.size _).drew | with_reducible exact bb_b.alloc bb_b.size _ | with_reducible exact (bb_b.alloc bb_b.size _).drew | fail)).2.2.2.2.1), (cell_far3 (show p4 ≠ _ from fun e => absurd pz (by omega)) _ _ _).trans ((HS.out _ (by first | with_reducible exact Below.refl _ _ | with_reducible exact (Below.refl _ _).drew | with_reducible exact (Below.refl _ _).alloc (Nat.le_refl _) _ | with_reducible exact ((Below.refl _ _).alloc (Nat.le_refl _) _).drew | with_reducible exact bb_m | with_reducible exact (bb_m).drew | with_reducible exact bb_a | with_reducible exact (bb_a).drew | with_reducible exact bb_b | with_reducible exact (bb_b).drew | with_reducible exact bb_m.alloc bb_m.size _ | with_reducible exact (bb_m.alloc bb_m.size _).drew | with_reducible exact bb_a.alloc bb_a.size _ | with_reducible exact (bb_a.alloc bb_a.size _).drew | with_reducible exact bb_b.alloc bb_b.size _ | with_reducible exact (bb_b.alloc bb_b.size _).drew | fail)).2.2.2.2.2)⟩)
      (first
        | (have := bb_a; go_at_call 14; with_reducible refine (KM.out _ (by first | with_reducible exact Below.refl _ _ | with_reducible exact (Below.refl _ _).drew | with_reducible exact (Below.refl _ _).alloc (Nat.le_refl _) _ | with_reducible exact ((Below.refl _ _).alloc (Nat.le_refl _) _).drew | with_reducible exact bb_m | with_reducible exact (bb_m).drew | with_reducible exact bb_a | with_reducible exact (bb_a).drew | with_reducible exact bb_b | with_reducible exact (bb_b).drew | with_reducible exact bb_m.alloc bb_m.size _ | with_reducible exact (bb_m.alloc bb_m.size _).drew | with_reducible exact bb_a.alloc bb_a.size _ | with_reducible exact (bb_a.alloc bb_a.size _).drew | with_reducible exact bb_b.alloc bb_b.size _ | with_reducible exact (bb_b.alloc bb_b.size _).drew | fail) _ _ _ _ (by first | with_reducible exact r_b | with_reducible exact ratsAt_alloc r_b _ | with_reducible exact ratsAt_drew r_b | with_reducible exact ratsAt_drew (ratsAt_alloc r_b _)) (by first | with_reducible exact r_a | with_reducible exact ratsAt_alloc r_a _ | with_reducible exact ratsAt_drew r_a | with_reducible exact ratsAt_drew (ratsAt_alloc r_a _))).mono ?_; rintro e w_m ⟨a_m, k_m, xs_m, rfl, o_m, bw_m, bb_m⟩; (try with_reducible (have dz := B3.below dz bw_m; have pz := pz)); (try first | with_reducible (have dz := (show B3 w_m W4.heap.size 25 (.int .i64 0) (.int .i64 0) (.slice none 0 0) from B3.below (show B3 (W4.alloc (.cells #[.int .i64 0, .int .i64 0, .slice none 0 0] 25)) W4.heap.size 25 (.int .i64 0) (.int .i64 0) (.slice none 0 0) from B3.new _ _ _ _ _) bw_m); have pz : W4.heap.size ≤ W4.heap.size := Nat.le_refl _) | with_reducible (have dz := (show B3 w_m W4.heap.size 25 (.int .i64 0) (.int .i64 0) (.slice none 0 0) from B3.below (show B3 (World.drew (W4.alloc (.cells #[.int .i64 0, .int .i64 0, .slice none 0 0] 25))) W4.heap.size 25 (.int .i64 0) (.int .i64 0) (.slice none 0 0) from B3.drew (B3.new _ _ _ _ _)) bw_m); have pz : W4.heap.size ≤ W4.heap.size := Nat.le_refl _) | with_reducible (have dz := (show B3 w_m w_b.heap.size 25 (.int .i64 0) (.int .i64 0) (.slice none 0 0) from B3.below (show B3 (w_b.alloc (.cells #[.int .i64 0, .int .i64 0, .slice none 0 0] 25)) w_b.heap.size 25 (.int .i64 0) (.int .i64 0) (.slice none 0 0) from B3.new _ _ _ _ _) bw_m); have pz : W4.heap.size ≤ w_b.heap.size := bb_b.size) | with_reducible (have dz := (show B3 w_m w_b.heap.size 25 (.int .i64 0) (.int .i64 0) (.slice none 0 0) from B3.below (show B3 (World.drew (w_b.alloc (.cells #[.int .i64 0, .int .i64 0, .slice none 0 0] 25))) w_b.heap.size 25 (.int .i64 0) (.int .i64 0) (.slice none 0 0) from B3.drew (B3.new _ _ _ _ _)) bw_m); have pz : W4.heap.size ≤ w_b.heap.size := bb_b.size) | with_reducible (have dz := (show B3 w_m w_a.heap.size 25 (.int .i64 0) (.int .i64 0) (.slice none 0 0) from B3.below (show B3 (w_a.alloc (.cells #[.int .i64 0, .int .i64 0, .slice none 0 0] 25)) w_a.heap.size 25 (.int .i64 0) (.int .i64 0) (.slice none 0 0) from B3.new _ _ _ _ _) bw_m); have pz : W4.heap.size ≤ w_a.heap.size := bb_a.size) | with_reducible (have dz := (show B3 w_m w_a.heap.size 25 (.int .i64 0) (.int .i64 0) (.slice none 0 0) from B3.below (show B3 (World.drew (w_a.alloc (.cells #[.int .i64 0, .int .i64 0, .slice none 0 0] 25))) w_a.heap.size 25 (.int .i64 0) (.int .i64 0) (.slice none 0 0) from B3.drew (B3.new _ _ _ _ _)) bw_m); have pz : W4.heap.size ≤ w_a.heap.size := bb_a.size)); (try (have y0 := dz.c0; have y1 := dz.c1; have y2 := dz.c2; have x0 := dz.f 0; have x1 := dz.f 1; have x2 := dz.f 2)))
        | (have := bb_b; go_at_call 15; with_reducible refine (KA.out _ (by first | with_reducible exact Below.refl _ _ | with_reducible exact (Below.refl _ _).drew | with_reducible exact (Below.refl _ _).alloc (Nat.le_refl _) _ | with_reducible exact ((Below.refl _ _).alloc (Nat.le_refl _) _).drew | with_reducible exact bb_m | with_reducible exact (bb_m).drew | with_reducible exact bb_a | with_reducible exact (bb_a).drew | with_reducible exact bb_b | with_reducible exact (bb_b).drew | with_reducible exact bb_m.alloc bb_m.size _ | with_reducible exact (bb_m.alloc bb_m.size _).drew | with_reducible exact bb_a.alloc bb_a.size _ | with_reducible exact (bb_a.alloc bb_a.size _).drew | with_reducible exact bb_b.alloc bb_b.size _ | with_reducible exact (bb_b.alloc bb_b.size _).drew | fail)).mono ?_; rintro e w_a ⟨a_a, k_a, rfl, r_a, bw_a, bb_a⟩; (try first | with_reducible (have r_b := RatsAt.below r_b bw_a) | with_reducible (have r_b := RatsAt.below (ratsAt_alloc r_b _) bw_a) | with_reducible (have r_b := RatsAt.below (ratsAt_drew r_b) bw_a) | with_reducible (have r_b := RatsAt.below (ratsAt_drew (ratsAt_alloc r_b _)) bw_a)); (try with_reducible (have dz := B3.below dz bw_a; have pz := pz)); (try first | with_reducible (have dz := (show B3 w_a W4.heap.size 25 (.int .i64 0) (.int .i64 0) (.slice none 0 0) from B3.below (show B3 (W4.alloc (.cells #[.int .i64 0, .int .i64 0, .slice none 0 0] 25)) W4.heap.size 25 (.int .i64 0) (.int .i64 0) (.slice none 0 0) from B3.new _ _ _ _ _) bw_a); have pz : W4.heap.size ≤ W4.heap.size := Nat.le_refl _) | with_reducible (have dz := (show B3 w_a W4.heap.size 25 (.int .i64 0) (.int .i64 0) (.slice none 0 0) from B3.below (show B3 (World.drew (W4.alloc (.cells #[.int .i64 0, .int .i64 0, .slice none 0 0] 25))) W4.heap.size 25 (.int .i64 0) (.int .i64 0) (.slice none 0 0) from B3.drew (B3.new _ _ _ _ _)) bw_a); have pz : W4.heap.size ≤ W4.heap.size := Nat.le_refl _) | with_reducible (have dz := (show B3 w_a w_b.heap.size 25 (.int .i64 0) (.int .i64 0) (.slice none 0 0) from B3.below (show B3 (w_b.alloc (.cells #[.int .i64 0, .int .i64 0, .slice none 0 0] 25)) w_b.heap.size 25 (.int .i64 0) (.int .i64 0) (.slice none 0 0) from B3.new _ _ _ _ _) bw_a); have pz : W4.heap.size ≤ w_b.heap.size := bb_b.size) | with_reducible (have dz := (show B3 w_a w_b.heap.size 25 (.int .i64 0) (.int .i64 0) (.slice none 0 0) from B3.below (show B3 (World.drew (w_b.alloc (.cells #[.int .i64 0, .int .i64 0, .slice none 0 0] 25))) w_b.heap.size 25 (.int .i64 0) (.int .i64 0) (.slice none 0 0) from B3.drew (B3.new _ _ _ _ _)) bw_a); have pz : W4.heap.size ≤ w_b.heap.size := bb_b.size)); (try (have y0 := dz.c0; have y1 := dz.c1; have y2 := dz.c2; have x0 := dz.f 0; have x1 := dz.f 1; have x2 := dz.f 2)))
        | (go_at_call 15; with_reducible refine (KB.out _ (by first | with_reducible exact Below.refl _ _ | with_reducible exact (Below.refl _ _).drew | with_reducible exact (Below.refl _ _).alloc (Nat.le_refl _) _ | with_reducible exact ((Below.refl _ _).alloc (Nat.le_refl _) _).drew | with_reducible exact bb_m | with_reducible exact (bb_m).drew | with_reducible exact bb_a | with_reducible exact (bb_a).drew | with_reducible exact bb_b | with_reducible exact (bb_b).drew | with_reducible exact bb_m.alloc bb_m.size _ | with_reducible exact (bb_m.alloc bb_m.size _).drew | with_reducible exact bb_a.alloc bb_a.size _ | with_reducible exact (bb_a.alloc bb_a.size _).drew | with_reducible exact bb_b.alloc bb_b.size _ | with_reducible exact (bb_b.alloc bb_b.size _).drew | fail)).mono ?_; rintro e w_b ⟨a_b, k_b, rfl, r_b, bw_b, bb_b⟩; (try with_reducible (have dz := B3.below dz bw_b; have pz := pz)); (try first | with_reducible (have dz := (show B3 w_b W4.heap.size 25 (.int .i64 0) (.int .i64 0) (.slice none 0 0) from B3.below (show B3 (W4.alloc (.cells #[.int .i64 0, .int .i64 0, .slice none 0 0] 25)) W4.heap.size 25 (.int .i64 0) (.int .i64 0) (.slice none 0 0) from B3.new _ _ _ _ _) bw_b); have pz : W4.heap.size ≤ W4.heap.size := Nat.le_refl _) | with_reducible (have dz := (show B3 w_b W4.heap.size 25 (.int .i64 0) (.int .i64 0) (.slice none 0 0) from B3.below (show B3 (World.drew (W4.alloc (.cells #[.int .i64 0, .int .i64 0, .slice none 0 0] 25))) W4.heap.size 25 (.int .i64 0) (.int .i64 0) (.slice none 0 0) from B3.drew (B3.new _ _ _ _ _)) bw_b); have pz : W4.heap.size ≤ W4.heap.size := Nat.le_refl _)); (try (have y0 := dz.c0; have y1 := dz.c1; have y2 := dz.c2; have x0 := dz.f 0; have x1 := dz.f 1; have x2 := dz.f 2))))
    all_goals go_wp2_with fail
    all_goals go_meet
    all_goals first
      | exact ⟨_, _, _, rfl, rfl, Lib.hid (dz.set3 _ _ _), Lib.hid (o_m.set3_b3 dz (by decide) (by decide) _ _ _).rats, Lib.hid (((bb_m.setCell (p := ⟨_, 0, none⟩) pz _).setCell (p := ⟨_, 1, none⟩) pz _).setCell (p := ⟨_, 2, none⟩) pz _)⟩
      | exact ⟨_, _, _, rfl, rfl, Lib.hid (B3.new _ _ _ _ _), Lib.hid (ratsAt_alloc o_m.rats _), Lib.hid (bb_m.alloc bb_m.size _)⟩
      | exact ⟨_, _, _, rfl, rfl, Lib.hid (B3.drew (B3.new _ _ _ _ _)), Lib.hid (ratsAt_drew (ratsAt_alloc o_m.rats _)), Lib.hid ((bb_m.alloc bb_m.size _).drew)⟩
      | fail
  obtain ⟨p8, a8, c8, rfl, rfl, D8, R8, B8⟩ := hcut
  replace RA := Lib.hid (RA.out.below B8.out)
  replace RB := Lib.hid (RB.out.below B8.out)
  replace RV := Lib.hid (RV.out.below B8.out)
  replace R6 := Lib.hid (R6.out.below B8.out)
  replace D3 := Lib.hid (D3.out.below B8.out)
  replace D4 := Lib.hid (D4.out.below B8.out)
  replace D6 := Lib.hid (D6.out.below B8.out)
  replace B1 := Lib.hid (B1.out.trans (B8.out.mono B1.out.size))
  clear d0 d1 d2 e0 e1 e2 lt3 lt4 B8
  have d0 := D6.out.c0
  have d1 := D6.out.c1
  have d2 := D6.out.c2
  go_wp2_with fail
  refine (amq F.out.a1 HX.out _ _ _ R6.out RV.out).mono ?_
  rintro e w5 ⟨a10, c10, rfl, rX, b5⟩
  have RX := Lib.hid rX
  replace B1 := Lib.hid (B1.out.trans (b5.mono B1.out.size))
  replace RA := Lib.hid (RA.out.below b5)
  replace RB := Lib.hid (RB.out.below b5)
  replace RV := Lib.hid (RV.out.below b5)
  replace R6 := Lib.hid (R6.out.below b5)
  replace R8 := Lib.hid (R8.out.below b5)
  replace D3 := Lib.hid (D3.out.below b5)
  replace D4 := Lib.hid (D4.out.below b5)
  replace D6 := Lib.hid (D6.out.below b5)
  replace D8 := Lib.hid (D8.out.below b5)
  clear d0 d1 d2 b5 rX
  have d0 := D4.out.c0
  have d1 := D4.out.c1
  have d2 := D4.out.c2
  go_wp2_with fail
  refine (amq F.out.a2 HY.out _ _ _ RB.out RV.out).mono ?_
  rintro e w6 ⟨a12, c12, rfl, rY, b6⟩
  have RY := Lib.hid rY
  replace B1 := Lib.hid (B1.out.trans (b6.mono B1.out.size))
  replace RA := Lib.hid (RA.out.below b6)
  replace RX := Lib.hid (RX.out.below b6)
  replace R6 := Lib.hid (R6.out.below b6)
  replace R8 := Lib.hid (R8.out.below b6)
  replace D3 := Lib.hid (D3.out.below b6)
  replace D6 := Lib.hid (D6.out.below b6)
  replace D8 := Lib.hid (D8.out.below b6)
  clear d0 d1 d2 b6 rY RB RV D4
  have d0 := D3.out.c0
  have d1 := D3.out.c1
  have d2 := D3.out.c2
  go_wp2_with fail
  refine (amq F.out.a3 HX.out _ _ _ RA.out RY.out).mono ?_
  rintro e w7 ⟨a14, c14, rfl, rZ, b7⟩
  have RZ := Lib.hid rZ
  replace B1 := Lib.hid (B1.out.trans (b7.mono B1.out.size))
  replace RA := Lib.hid (RA.out.below b7)
  replace RX := Lib.hid (RX.out.below b7)
  replace R6 := Lib.hid (R6.out.below b7)
  replace R8 := Lib.hid (R8.out.below b7)
  replace D3 := Lib.hid (D3.out.below b7)
  replace D6 := Lib.hid (D6.out.below b7)
  replace D8 := Lib.hid (D8.out.below b7)
  clear d0 d1 d2 b7 rZ RY
  clear KA KB KM HS
  go_upto_region 13 with fail
  have hA6 := SA.out.1
  obtain ⟨x5, q5, e5, hc5, hm5, hr5⟩ := RA.out
  injection e5 with g1 g2 g3
  subst g1; subst g3
  obtain ⟨bA, oA, x5, y5, rfl, k0, k1, k2, r5⟩ := hr5 5 (by omega)
  have R5 := Lib.hid r5
  have RW := Lib.hid (ratsAt_drop RA.out 3 3 (by omega) rfl)
  have hcA : 6 ≤ cA := by omega
  have hcA2 : cA ≤ 2 ^ 63 - 1 := by unfold maxLen at hm5; omega
  clear hr5 r5 g2 hc5 hm5
  have LK := Lib.hid (And.intro (World.block_lt_of_cell? _ _ k0) (And.intro k0 (And.intro k1 k2)))
  have HS := Lib.hid (show ∀ W : World, Below w7.heap.size w7 W → (W.cell? ⟨p3, 0, none⟩ = some (.int .i64 2) ∧ W.cell? ⟨p3, 1, none⟩ = some (.int .i64 3) ∧ W.cell? ⟨p3, 2, none⟩ = some (.slice (some ⟨bA, oA, none⟩) 6 cA) ∧ W.cell? ⟨p6, 0, none⟩ = some (.int .i64 2) ∧ W.cell? ⟨p6, 1, none⟩ = some (.int .i64 2) ∧ W.cell? ⟨p6, 2, none⟩ = some (.slice a6 4 c6) ∧ W.cell? ⟨p8, 0, none⟩ = some (.int .i64 2) ∧ W.cell? ⟨p8, 1, none⟩ = some (.int .i64 2) ∧ W.cell? ⟨p8, 2, none⟩ = some (.slice a8 4 c8) ∧ W.cell? ⟨bA, oA + 5 * 3, none⟩ = some (.bool (LA[5]'(by omega)).neg) ∧ W.cell? ⟨bA, oA + 5 * 3 + 1, none⟩ = some x5 ∧ W.cell? ⟨bA, oA + 5 * 3 + 2, none⟩ = some y5) from fun W hW => ⟨(D3.out.below hW).c0, (D3.out.below hW).c1, (D3.out.below hW).c2, (D6.out.below hW).c0, (D6.out.below hW).c1, (D6.out.below hW).c2, (D8.out.below hW).c0, (D8.out.below hW).c1, (D8.out.below hW).c2, (hW.cell (World.block_lt_of_cell? _ _ LK.out.2.1)).trans LK.out.2.1, (hW.cell (World.block_lt_of_cell? _ _ LK.out.2.2.1)).trans LK.out.2.2.1, (hW.cell (World.block_lt_of_cell? _ _ LK.out.2.2.2)).trans LK.out.2.2.2⟩)
  have hc := F.out.cell (by omega)
  have KT := Lib.hid (fun (W : World) (hW : Below w7.heap.size w7 W) => trq F.out.t3 HBA.out _ w7 W (R6.out.below hW) hW)
  have KX := Lib.hid (fun (W : World) (hW : Below w7.heap.size w7 W) => pwM (impl_equalVL _ _ _ _ W (RX.out.below hW) (RZ.out.below hW)) hW)
  replace KX := Lib.hid (by have h := KX.out; rw [eqV_self] at h; exact h)
  have KE := Lib.hid (fun (W : World) (hW : Below w7.heap.size w7 W) a k (h : RatsAt W (.slice a 4 k) BA) => pwM (impl_eqM (eqV eqF) (fun v0 L0 v1 L1 w h0 h1 => impl_equalVL v0 L0 v1 L1 w h0 h1) 2 2 (.slice a 4 k) BA 2 2 _ _ W h (R8.out.below hW)) hW)
  replace KE := Lib.hid (by have h := KE.out; rw [eqM_self] at h; exact h)
  have KO := Lib.hid (fun (W : World) (hW : Below w7.heap.size w7 W) => pwM (impl_okL 2 2 _ _ W (R6.out.below hW)) hW)
  replace KO := Lib.hid (by have h := KO.out; rw [F.out.ok] at h; exact h)
  have KR := Lib.hid (fun (W : World) (hW : Below w7.heap.size w7 W) => roq F.out.row (show (LA.drop 3).length = 3 by rw [List.length_drop]; omega) _ w7 W (RA.out.below hW) hW)
  have KW := Lib.hid (fun (W : World) (hW : Below w7.heap.size w7 W) a k (h : RatsAt W (.slice a 3 k) (LA.drop 3)) => pwM (impl_equalVL (.slice a 3 k) _ _ _ W h (RW.out.below hW)) hW)
  replace KW := Lib.hid (by have h := KW.out; rw [eqV_self] at h; exact h)
  have KC := Lib.hid (fun (W : World) (hW : Below w7.heap.size w7 W) => ceq hc _ w7 W (RA.out.below hW) hW)
  have KQ := Lib.hid (fun (W : World) (hW : Below w7.heap.size w7 W) x y (h : RowR W x (LA[5]'(by omega)).mag y (LA[5]'(by omega)).den) => pwM (impl_ratEqualR (LA[5]'(by omega)).neg x (LA[5]'(by omega)).mag y (LA[5]'(by omega)).den (LA[5]'(by omega)).neg x5 (LA[5]'(by omega)).mag y5 (LA[5]'(by omega)).den W h (R5.out.below hW)) hW)
  replace KQ := Lib.hid (by have h := KQ.out; rw [ratEqB_self] at h; exact h)
  have s3_0 := D3.out.c0
  have s3_1 := D3.out.c1
  have s3_2 := D3.out.c2
  have s6_0 := D6.out.c0
  have s6_1 := D6.out.c1
  have s6_2 := D6.out.c2
  have s8_0 := D8.out.c0
  have s8_1 := D8.out.c1
  have s8_2 := D8.out.c2
  clear hc
  go_region_held3 (fun w' => w'.cell? ⟨p3, 0, none⟩ = some (.int .i64 2) ∧ w'.cell? ⟨p3, 1, none⟩ = some (.int .i64 3) ∧ w'.cell? ⟨p3, 2, none⟩ = some (.slice (some ⟨bA, oA, none⟩) 6 cA) ∧ w'.cell? ⟨p6, 0, none⟩ = some (.int .i64 2) ∧ w'.cell? ⟨p6, 1, none⟩ = some (.int .i64 2) ∧ w'.cell? ⟨p6, 2, none⟩ = some (.slice a6 4 c6) ∧ w'.cell? ⟨p8, 0, none⟩ = some (.int .i64 2) ∧ w'.cell? ⟨p8, 1, none⟩ = some (.int .i64 2) ∧ w'.cell? ⟨p8, 2, none⟩ = some (.slice a8 4 c8) ∧ w'.cell? ⟨bA, oA + 5 * 3, none⟩ = some (.bool (LA[5]'(by omega)).neg) ∧ w'.cell? ⟨bA, oA + 5 * 3 + 1, none⟩ = some x5 ∧ w'.cell? ⟨bA, oA + 5 * 3 + 2, none⟩ = some y5) (exact HS.out _ (by first | with_reducible exact Below.refl _ _ | with_reducible exact (Below.refl _ _).drew | with_reducible exact bb_q | with_reducible exact (bb_q).drew | with_reducible exact bb_c | with_reducible exact (bb_c).drew | with_reducible exact bb_w | with_reducible exact (bb_w).drew | with_reducible exact bb_r | with_reducible exact (bb_r).drew | with_reducible exact bb_o | with_reducible exact (bb_o).drew | with_reducible exact bb_e | with_reducible exact (bb_e).drew | with_reducible exact bb_t | with_reducible exact (bb_t).drew | with_reducible exact bb_x | with_reducible exact (bb_x).drew | fail))
    (first
      | (have := bb_c; go_at_call 21; with_reducible refine (KQ.out _ (by first | with_reducible exact Below.refl _ _ | with_reducible exact (Below.refl _ _).drew | with_reducible exact bb_q | with_reducible exact (bb_q).drew | with_reducible exact bb_c | with_reducible exact (bb_c).drew | with_reducible exact bb_w | with_reducible exact (bb_w).drew | with_reducible exact bb_r | with_reducible exact (bb_r).drew | with_reducible exact bb_o | with_reducible exact (bb_o).drew | with_reducible exact bb_e | with_reducible exact (bb_e).drew | with_reducible exact bb_t | with_reducible exact (bb_t).drew | with_reducible exact bb_x | with_reducible exact (bb_x).drew | fail) _ _ (by first | with_reducible exact r_c | with_reducible exact RowR.drew r_c)).mono ?_; rintro e w_q ⟨rfl, bw_q, bb_q⟩)
      | (have := bb_w; go_at_call 22; with_reducible refine (KC.out _ (by first | with_reducible exact Below.refl _ _ | with_reducible exact (Below.refl _ _).drew | with_reducible exact bb_q | with_reducible exact (bb_q).drew | with_reducible exact bb_c | with_reducible exact (bb_c).drew | with_reducible exact bb_w | with_reducible exact (bb_w).drew | with_reducible exact bb_r | with_reducible exact (bb_r).drew | with_reducible exact bb_o | with_reducible exact (bb_o).drew | with_reducible exact bb_e | with_reducible exact (bb_e).drew | with_reducible exact bb_t | with_reducible exact (bb_t).drew | with_reducible exact bb_x | with_reducible exact (bb_x).drew | fail)).mono ?_; rintro e w_c ⟨x_c, y_c, rfl, r_c, bw_c, bb_c⟩)
      | (have := bb_r; go_at_call 17; with_reducible refine (KW.out _ (by first | with_reducible exact Below.refl _ _ | with_reducible exact (Below.refl _ _).drew | with_reducible exact bb_q | with_reducible exact (bb_q).drew | with_reducible exact bb_c | with_reducible exact (bb_c).drew | with_reducible exact bb_w | with_reducible exact (bb_w).drew | with_reducible exact bb_r | with_reducible exact (bb_r).drew | with_reducible exact bb_o | with_reducible exact (bb_o).drew | with_reducible exact bb_e | with_reducible exact (bb_e).drew | with_reducible exact bb_t | with_reducible exact (bb_t).drew | with_reducible exact bb_x | with_reducible exact (bb_x).drew | fail) _ _ (by first | with_reducible exact r_r | with_reducible exact ratsAt_drew r_r)).mono ?_; rintro e w_w ⟨rfl, bw_w, bb_w⟩)
      | (have := bb_o; go_at_call 20; with_reducible refine (KR.out _ (by first | with_reducible exact Below.refl _ _ | with_reducible exact (Below.refl _ _).drew | with_reducible exact bb_q | with_reducible exact (bb_q).drew | with_reducible exact bb_c | with_reducible exact (bb_c).drew | with_reducible exact bb_w | with_reducible exact (bb_w).drew | with_reducible exact bb_r | with_reducible exact (bb_r).drew | with_reducible exact bb_o | with_reducible exact (bb_o).drew | with_reducible exact bb_e | with_reducible exact (bb_e).drew | with_reducible exact bb_t | with_reducible exact (bb_t).drew | with_reducible exact bb_x | with_reducible exact (bb_x).drew | fail)).mono ?_; rintro e w_r ⟨a_r, k_r, rfl, r_r, bw_r, bb_r⟩)
      | (have := bb_e; go_at_call 19; with_reducible refine (KO.out _ (by first | with_reducible exact Below.refl _ _ | with_reducible exact (Below.refl _ _).drew | with_reducible exact bb_q | with_reducible exact (bb_q).drew | with_reducible exact bb_c | with_reducible exact (bb_c).drew | with_reducible exact bb_w | with_reducible exact (bb_w).drew | with_reducible exact bb_r | with_reducible exact (bb_r).drew | with_reducible exact bb_o | with_reducible exact (bb_o).drew | with_reducible exact bb_e | with_reducible exact (bb_e).drew | with_reducible exact bb_t | with_reducible exact (bb_t).drew | with_reducible exact bb_x | with_reducible exact (bb_x).drew | fail)).mono ?_; rintro e w_o ⟨rfl, bw_o, bb_o⟩)
      | (have := bb_t; go_at_call 18; with_reducible refine (KE.out _ (by first | with_reducible exact Below.refl _ _ | with_reducible exact (Below.refl _ _).drew | with_reducible exact bb_q | with_reducible exact (bb_q).drew | with_reducible exact bb_c | with_reducible exact (bb_c).drew | with_reducible exact bb_w | with_reducible exact (bb_w).drew | with_reducible exact bb_r | with_reducible exact (bb_r).drew | with_reducible exact bb_o | with_reducible exact (bb_o).drew | with_reducible exact bb_e | with_reducible exact (bb_e).drew | with_reducible exact bb_t | with_reducible exact (bb_t).drew | with_reducible exact bb_x | with_reducible exact (bb_x).drew | fail) _ _ (by first | with_reducible exact r_t | with_reducible exact ratsAt_drew r_t)).mono ?_; rintro e w_e ⟨rfl, bw_e, bb_e⟩)
      | (have := bb_x; go_at_call 15; with_reducible refine (KT.out _ (by first | with_reducible exact Below.refl _ _ | with_reducible exact (Below.refl _ _).drew | with_reducible exact bb_q | with_reducible exact (bb_q).drew | with_reducible exact bb_c | with_reducible exact (bb_c).drew | with_reducible exact bb_w | with_reducible exact (bb_w).drew | with_reducible exact bb_r | with_reducible exact (bb_r).drew | with_reducible exact bb_o | with_reducible exact (bb_o).drew | with_reducible exact bb_e | with_reducible exact (bb_e).drew | with_reducible exact bb_t | with_reducible exact (bb_t).drew | with_reducible exact bb_x | with_reducible exact (bb_x).drew | fail)).mono ?_; rintro e w_t ⟨a_t, k_t, rfl, r_t, bw_t, bb_t⟩)
      | (go_at_call 17; with_reducible refine (KX.out _ (by first | with_reducible exact Below.refl _ _ | with_reducible exact (Below.refl _ _).drew | with_reducible exact bb_q | with_reducible exact (bb_q).drew | with_reducible exact bb_c | with_reducible exact (bb_c).drew | with_reducible exact bb_w | with_reducible exact (bb_w).drew | with_reducible exact bb_r | with_reducible exact (bb_r).drew | with_reducible exact bb_o | with_reducible exact (bb_o).drew | with_reducible exact bb_e | with_reducible exact (bb_e).drew | with_reducible exact bb_t | with_reducible exact (bb_t).drew | with_reducible exact bb_x | with_reducible exact (bb_x).drew | fail)).mono ?_; rintro e w_x ⟨rfl, bw_x, bb_x⟩))
  all_goals first
    | (go_ret; exact ⟨rfl, B1.out.trans (bb_q.mono B1.out.size)⟩)
    | (go_wp2; go_ret; exact ⟨rfl, B1.out.trans (bb_q.mono B1.out.size)⟩)
    | (go_wp2; exact ⟨rfl, B1.out.trans (bb_q.mono B1.out.size)⟩)
    | (trace_state; sorry)

end Go.Proofs.Ytojklmckjebplaa
