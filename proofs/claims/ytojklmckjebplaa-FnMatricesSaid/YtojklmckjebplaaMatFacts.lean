/- What FnMatrices turns on, as data: products of small matrices are exact, associative, and reversed by transposition. -/
import Derived.Test.YtojklmckjebplaaMatDraw
import Derived.Test.YtojklmckjebplaaMatImul
namespace Go.Proofs.Ytojklmckjebplaa
open Go.RowKit Go.WideShapes Go.ChangeShapes
set_option linter.unusedVariables false
set_option linter.unusedSimpArgs false
def Bd (n : Int) (K : Nat) : Prop := n.natAbs ≤ K
theorem bd_mul {n m : Int} {K J : Nat} (h : Bd n K) (k : Bd m J) : Bd (n * m) (K * J) := by unfold Bd; rw [Int.natAbs_mul]; exact Nat.mul_le_mul h k
theorem bd_add {n m : Int} {K J : Nat} (h : Bd n K) (k : Bd m J) : Bd (n + m) (K + J) := by unfold Bd at *; omega
theorem bd_mono {n : Int} {K J : Nat} (h : Bd n K) (k : K ≤ J) : Bd n J := Nat.le_trans h k
theorem mulB {n m : Int} {d e K J : Nat} (hd : 0 < d) (he : 0 < e) (hn : Bd n K) (hm : Bd m J) (h : K * J < 1000000000000000000000000000000000000000000000000000000) (hde : d * e < 1000000000000000000000000000000000000000000000000000000) : mulX (cf n d) (cf m e) = cf (n * m) (d * e) :=
  mul_cf hd he (pw24_big (Nat.lt_of_le_of_lt (bd_mul hn hm) h)) (pw24_big hde)
theorem addB {n m : Int} {D K J : Nat} (hD : 0 < D) (hn : Bd n K) (hm : Bd m J) (h : (K + J) * D < 1000000000000000000000000000000000000000000000000000000) (hDD : D * D < 1000000000000000000000000000000000000000000000000000000) : addX (cf n D) (cf m D) = cf (n + m) D :=
  add_same hD (pw24_big (by rw [Int.natAbs_mul, Int.natAbs_natCast]; exact Nat.lt_of_le_of_lt (Nat.mul_le_mul_right _ (bd_add hn hm)) h)) (pw24_big hDD)
theorem bd_zero (K : Nat) : Bd 0 K := Nat.zero_le _
theorem inn2 {a b x y : Int} {d e K J : Nat} (hd : 0 < d) (he : 0 < e) (ha : Bd a K) (hb : Bd b K) (hx : Bd x J) (hy : Bd y J)
    (h1 : d * e ≤ 1000000000000) (h2 : K * J ≤ 100000000000000000000) : innV [cf a d, cf b d] [cf x e, cf y e] = cf (a * x + b * y) (d * e) := by
  have hD : 0 < d * e := Nat.mul_pos hd he
  have hDD : (d * e) * (d * e) ≤ 1000000000000 * 1000000000000 := Nat.mul_le_mul h1 h1
  have hS : (K * J + K * J) * (d * e) ≤ 200000000000000000000 * 1000000000000 := Nat.mul_le_mul (by omega) h1
  have hS0 : (0 + K * J) * (d * e) ≤ 100000000000000000000 * 1000000000000 := Nat.mul_le_mul (by omega) h1
  show addX (addX zF (mulX (cf a d) (cf x e))) (mulX (cf b d) (cf y e)) = _
  rw [mulB hd he ha hx (by omega) (by omega), mulB hd he hb hy (by omega) (by omega), ← cf_zero hD, addB hD (bd_zero 0) (bd_mul ha hx) (by omega) (by omega), Int.zero_add,
    addB hD (bd_mul ha hx) (bd_mul hb hy) (by omega) (by omega)]
theorem inn3 {a b c x y z : Int} {d e K J : Nat} (hd : 0 < d) (he : 0 < e) (ha : Bd a K) (hb : Bd b K) (hc : Bd c K) (hx : Bd x J) (hy : Bd y J) (hz : Bd z J)
    (h1 : d * e ≤ 1000000000000) (h2 : K * J ≤ 100000000000000000000) : innV [cf a d, cf b d, cf c d] [cf x e, cf y e, cf z e] = cf (a * x + b * y + c * z) (d * e) := by
  have hD : 0 < d * e := Nat.mul_pos hd he
  have hDD : (d * e) * (d * e) ≤ 1000000000000 * 1000000000000 := Nat.mul_le_mul h1 h1
  have hS : (K * J + K * J + K * J) * (d * e) ≤ 300000000000000000000 * 1000000000000 := Nat.mul_le_mul (by omega) h1
  have e2 := inn2 hd he ha hb hx hy h1 h2
  show addX (innV [cf a d, cf b d] [cf x e, cf y e]) (mulX (cf c d) (cf z e)) = _
  rw [e2, mulB hd he hc hz (by omega) (by omega), addB hD (bd_add (bd_mul ha hx) (bd_mul hb hy)) (bd_mul hc hz) (by omega) (by omega)]
theorem ok_bd {n : Int} {d K : Nat} (hd : 0 < d) (hn : Bd n K) (hK : K < 1000000000000000000000000000000000000000000000000000000) (hdd : d < 1000000000000000000000000000000000000000000000000000000) : okF (cf n d) = true :=
  ok_cf hd (pw24_big (Nat.lt_of_le_of_lt hn hK)) (pw24_big hdd)
theorem sm_ok {f : Fr} (h : Sm f) : okF f = true := by
  obtain ⟨n, rfl, hn⟩ := h
  exact ok_bd (K := 1200) (by omega) hn (by omega) (by omega)
theorem matB_mk {R C : Nat} {L : List Fr} (hR : R ≤ 24) (hC : C ≤ 24) (hl : L.length = R * C) (h : ∀ f ∈ L, okF f = true) : matB ratOk (R : Int) (C : Int) L = true := by
  unfold matB
  rw [dimB_iff.2 ⟨by omega, by omega⟩, dimB_iff.2 ⟨by omega, by omega⟩, decide_eq_true (show (L.length : Int) = (R : Int) * (C : Int) by rw [hl, Int.natCast_mul]), (show L.all (fun f => ratOk f.neg f.mag f.den) = true from List.all_eq_true.2 (fun f hf => h f hf))]
  rfl
theorem vecB_mk {L : List Fr} (hl : L.length ≤ 24) (h : ∀ f ∈ L, okF f = true) : vecB ratOk L = true := by
  unfold vecB
  rw [decide_eq_true hl, (show L.all (fun f => ratOk f.neg f.mag f.den) = true from List.all_eq_true.2 (fun f hf => h f hf))]; rfl
theorem fine_mk {L : List Fr} (h : ∀ f ∈ L, okF f = true) : fineV L = true := by
  unfold fineV; rw [List.all_eq_true]; intro f hf; rw [bad_ok (h f hf)]; rfl
/-- the facts that the law's walk takes -/
structure MatFacts (LA LB LV AB TB TA BA X Y : List Fr) : Prop where
  mA : matB ratOk 2 3 LA = true
  mB : matB ratOk 3 2 LB = true
  p1 : mpB ratOk innV 2 3 LA 3 2 LB = true ∧ mpR ratOk innV 2 3 LA 3 2 LB = 2 ∧ mpC ratOk innV 2 3 LA 3 2 LB = 2 ∧ mpL ratOk innV 2 3 LA 3 2 LB = AB
  t1 : tpR ratOk 3 2 LB = 2 ∧ tpC ratOk 3 2 LB = 3 ∧ tpL ratOk 3 2 LB = TB
  t2 : tpR ratOk 2 3 LA = 3 ∧ tpC ratOk 2 3 LA = 2 ∧ tpL ratOk 2 3 LA = TA
  p2 : mpB ratOk innV 2 3 TB 3 2 TA = true ∧ mpR ratOk innV 2 3 TB 3 2 TA = 2 ∧ mpC ratOk innV 2 3 TB 3 2 TA = 2 ∧ mpL ratOk innV 2 3 TB 3 2 TA = BA
  a1 : amB ratOk innV 2 2 AB LV = true ∧ amL ratOk innV 2 2 AB LV = X
  a2 : amB ratOk innV 3 2 LB LV = true ∧ amL ratOk innV 3 2 LB LV = Y
  a3 : amB ratOk innV 2 3 LA Y = true ∧ amL ratOk innV 2 3 LA Y = X
  t3 : tpR ratOk 2 2 AB = 2 ∧ tpC ratOk 2 2 AB = 2 ∧ tpL ratOk 2 2 AB = BA
  ok : matB ratOk 2 2 AB = true
  row : rowL ratOk 2 3 LA 1 = LA.drop 3
  cell : ∀ h : 5 < LA.length, cellF ratOk 2 3 LA 1 2 = LA[5]'h
theorem mp_mk {R C K : Nat} {L L' : List Fr} {Z : List Fr} (h : matB ratOk R C L = true) (h' : matB ratOk C K L' = true) (hz : mpV innV R C L C K L' = Z) (hf : fineV Z = true) :
    mpB ratOk innV R C L C K L' = true ∧ mpR ratOk innV R C L C K L' = R ∧ mpC ratOk innV R C L C K L' = K ∧ mpL ratOk innV R C L C K L' = Z := by
  have hb : mpB ratOk innV R C L C K L' = true := by unfold mpB; rw [h, h', hz, hf]; simp
  obtain ⟨e1, e2, e3⟩ := mp_yes hb
  exact ⟨hb, e2, e3, e1.trans hz⟩
theorem am_mk {R C : Nat} {L V : List Fr} {Z : List Fr} (h : matB ratOk R C L = true) (h' : vecB ratOk V = true) (hl : V.length = C) (hz : apL innV L C V R = Z) (hf : fineV Z = true) :
    amB ratOk innV R C L V = true ∧ amL ratOk innV R C L V = Z := by
  have hb : amB ratOk innV R C L V = true := by
    unfold amB; rw [h, h', decide_eq_true (show (V.length : Int) = (C : Int) by rw [hl]), Int.toNat_natCast, Int.toNat_natCast, hz, hf]; rfl
  exact ⟨hb, by unfold amL; rw [hb, Int.toNat_natCast, Int.toNat_natCast, hz]; rfl⟩
theorem tp_mk {R C : Nat} {L Z : List Fr} (h : matB ratOk R C L = true) (hz : trM L R C C = Z) : tpR ratOk R C L = C ∧ tpC ratOk R C L = R ∧ tpL ratOk R C L = Z := by
  unfold tpR tpC tpL; rw [h, Int.toNat_natCast, Int.toNat_natCast, hz]; exact ⟨rfl, rfl, rfl⟩
theorem two_of {L : List Fr} (h : L.length = 2) : ∃ a b, L = [a, b] := by
  match L, h with
  | [a, b], _ => exact ⟨a, b, rfl⟩
theorem six_of {L : List Fr} (h : L.length = 6) : ∃ a b c d e f, L = [a, b, c, d, e, f] := by
  match L, h with
  | [a, b, c, d, e, f], _ => exact ⟨a, b, c, d, e, f, rfl⟩
set_option maxRecDepth 100000 in
set_option maxHeartbeats 4000000 in
theorem mat_facts (LA LB LV : List Fr) (hA : LA.length = 6) (hB : LB.length = 6) (hV : LV.length = 2) (sA : ∀ f ∈ LA, Sm f) (sB : ∀ f ∈ LB, Sm f) (sV : ∀ f ∈ LV, Sm f) :
    ∃ AB TB TA BA X Y, MatFacts LA LB LV AB TB TA BA X Y ∧ AB.length = 4 ∧ TB.length = 6 ∧ TA.length = 6 ∧ BA.length = 4 ∧ X.length = 2 ∧ Y.length = 3 := by
  obtain ⟨a0, a1, a2, a3, a4, a5, rfl⟩ := six_of hA
  obtain ⟨b0, b1, b2, b3, b4, b5, rfl⟩ := six_of hB
  obtain ⟨v0, v1, rfl⟩ := two_of hV
  simp only [List.mem_cons, List.not_mem_nil, or_false, forall_eq_or_imp, forall_eq] at sA sB sV
  obtain ⟨⟨x0, rfl, p0⟩, ⟨x1, rfl, p1⟩, ⟨x2, rfl, p2⟩, ⟨x3, rfl, p3⟩, ⟨x4, rfl, p4⟩, ⟨x5, rfl, p5⟩⟩ := sA
  obtain ⟨⟨y0, rfl, q0⟩, ⟨y1, rfl, q1⟩, ⟨y2, rfl, q2⟩, ⟨y3, rfl, q3⟩, ⟨y4, rfl, q4⟩, ⟨y5, rfl, q5⟩⟩ := sB
  obtain ⟨⟨z0, rfl, r0⟩, ⟨z1, rfl, r1⟩⟩ := sV
  have s60 : ∀ n : Int, n.natAbs ≤ 1200 → okF (cf n 60) = true := fun n hn => ok_bd (K := 1200) (by omega) hn (by omega) (by omega)
  have okA : ∀ f ∈ [cf x0 60, cf x1 60, cf x2 60, cf x3 60, cf x4 60, cf x5 60], okF f = true := by
    simp only [List.mem_cons, List.not_mem_nil, or_false, forall_eq_or_imp, forall_eq]; exact ⟨s60 _ p0, s60 _ p1, s60 _ p2, s60 _ p3, s60 _ p4, s60 _ p5⟩
  have okB : ∀ f ∈ [cf y0 60, cf y1 60, cf y2 60, cf y3 60, cf y4 60, cf y5 60], okF f = true := by
    simp only [List.mem_cons, List.not_mem_nil, or_false, forall_eq_or_imp, forall_eq]; exact ⟨s60 _ q0, s60 _ q1, s60 _ q2, s60 _ q3, s60 _ q4, s60 _ q5⟩
  have okV : ∀ f ∈ [cf z0 60, cf z1 60], okF f = true := by
    simp only [List.mem_cons, List.not_mem_nil, or_false, forall_eq_or_imp, forall_eq]; exact ⟨s60 _ r0, s60 _ r1⟩
  have i3 : ∀ {a b c x y z : Int}, Bd a 1200 → Bd b 1200 → Bd c 1200 → Bd x 1200 → Bd y 1200 → Bd z 1200 → innV [cf a 60, cf b 60, cf c 60] [cf x 60, cf y 60, cf z 60] = cf (a * x + b * y + c * z) 3600 ∧ Bd (a * x + b * y + c * z) 4320000 := fun ha hb hc hx hy hz =>
    ⟨inn3 (K := 1200) (J := 1200) (by omega) (by omega) ha hb hc hx hy hz (by omega) (by omega), bd_add (bd_add (bd_mul ha hx) (bd_mul hb hy)) (bd_mul hc hz)⟩
  have k3 : ∀ n : Int, Bd n 4320000 → okF (cf n 3600) = true := fun n hn => ok_bd (K := 4320000) (by omega) hn (by omega) (by omega)
  have c00 := i3 p0 p1 p2 q0 q2 q4
  have c01 := i3 p0 p1 p2 q1 q3 q5
  have c10 := i3 p3 p4 p5 q0 q2 q4
  have c11 := i3 p3 p4 p5 q1 q3 q5
  have d00 := inn2 (K := 1200) (J := 1200) (d := 60) (e := 60) (by omega) (by omega) q0 q1 r0 r1 (by omega) (by omega)
  have d10 := inn2 (K := 1200) (J := 1200) (d := 60) (e := 60) (by omega) (by omega) q2 q3 r0 r1 (by omega) (by omega)
  have d20 := inn2 (K := 1200) (J := 1200) (d := 60) (e := 60) (by omega) (by omega) q4 q5 r0 r1 (by omega) (by omega)
  have w0 : Bd (y0 * z0 + y1 * z1) 2880000 := bd_add (bd_mul q0 r0) (bd_mul q1 r1)
  have w1 : Bd (y2 * z0 + y3 * z1) 2880000 := bd_add (bd_mul q2 r0) (bd_mul q3 r1)
  have w2 : Bd (y4 * z0 + y5 * z1) 2880000 := bd_add (bd_mul q4 r0) (bd_mul q5 r1)
  have mA := matB_mk (R := 2) (C := 3) (by omega) (by omega) rfl okA
  have mB := matB_mk (R := 3) (C := 2) (by omega) (by omega) rfl okB
  -- the product
  have eAB : mpV innV ((2 : Nat) : Int) ((3 : Nat) : Int) [cf x0 60, cf x1 60, cf x2 60, cf x3 60, cf x4 60, cf x5 60] ((3 : Nat) : Int) ((2 : Nat) : Int) [cf y0 60, cf y1 60, cf y2 60, cf y3 60, cf y4 60, cf y5 60] =
      [cf (x0 * y0 + x1 * y2 + x2 * y4) 3600, cf (x0 * y1 + x1 * y3 + x2 * y5) 3600, cf (x3 * y0 + x4 * y2 + x5 * y4) 3600, cf (x3 * y1 + x4 * y3 + x5 * y5) 3600] := by
    rw [← c00.1, ← c01.1, ← c10.1, ← c11.1]; rfl
  have okAB : ∀ f ∈ [cf (x0 * y0 + x1 * y2 + x2 * y4) 3600, cf (x0 * y1 + x1 * y3 + x2 * y5) 3600, cf (x3 * y0 + x4 * y2 + x5 * y4) 3600, cf (x3 * y1 + x4 * y3 + x5 * y5) 3600], okF f = true := by
    simp only [List.mem_cons, List.not_mem_nil, or_false, forall_eq_or_imp, forall_eq]; exact ⟨k3 _ c00.2, k3 _ c01.2, k3 _ c10.2, k3 _ c11.2⟩
  have mAB := matB_mk (R := 2) (C := 2) (by omega) (by omega) rfl okAB
  have hTB : trM [cf y0 60, cf y1 60, cf y2 60, cf y3 60, cf y4 60, cf y5 60] 3 2 2 = [cf y0 60, cf y2 60, cf y4 60, cf y1 60, cf y3 60, cf y5 60] := rfl
  have hTA : trM [cf x0 60, cf x1 60, cf x2 60, cf x3 60, cf x4 60, cf x5 60] 2 3 3 = [cf x0 60, cf x3 60, cf x1 60, cf x4 60, cf x2 60, cf x5 60] := rfl
  have okTB : ∀ f ∈ [cf y0 60, cf y2 60, cf y4 60, cf y1 60, cf y3 60, cf y5 60], okF f = true := by
    simp only [List.mem_cons, List.not_mem_nil, or_false, forall_eq_or_imp, forall_eq]; exact ⟨s60 _ q0, s60 _ q2, s60 _ q4, s60 _ q1, s60 _ q3, s60 _ q5⟩
  have okTA : ∀ f ∈ [cf x0 60, cf x3 60, cf x1 60, cf x4 60, cf x2 60, cf x5 60], okF f = true := by
    simp only [List.mem_cons, List.not_mem_nil, or_false, forall_eq_or_imp, forall_eq]; exact ⟨s60 _ p0, s60 _ p3, s60 _ p1, s60 _ p4, s60 _ p2, s60 _ p5⟩
  have mTB := matB_mk (R := 2) (C := 3) (by omega) (by omega) rfl okTB
  have mTA := matB_mk (R := 3) (C := 2) (by omega) (by omega) rfl okTA
  have eBA : mpV innV ((2 : Nat) : Int) ((3 : Nat) : Int) [cf y0 60, cf y2 60, cf y4 60, cf y1 60, cf y3 60, cf y5 60] ((3 : Nat) : Int) ((2 : Nat) : Int) [cf x0 60, cf x3 60, cf x1 60, cf x4 60, cf x2 60, cf x5 60] =
      [cf (x0 * y0 + x1 * y2 + x2 * y4) 3600, cf (x3 * y0 + x4 * y2 + x5 * y4) 3600, cf (x0 * y1 + x1 * y3 + x2 * y5) 3600, cf (x3 * y1 + x4 * y3 + x5 * y5) 3600] := by
    rw [← c00.1, ← c01.1, ← c10.1, ← c11.1, inn_comm [cf x0 60, cf x1 60, cf x2 60], inn_comm [cf x0 60, cf x1 60, cf x2 60], inn_comm [cf x3 60, cf x4 60, cf x5 60], inn_comm [cf x3 60, cf x4 60, cf x5 60]]; rfl
  have okBA : ∀ f ∈ [cf (x0 * y0 + x1 * y2 + x2 * y4) 3600, cf (x3 * y0 + x4 * y2 + x5 * y4) 3600, cf (x0 * y1 + x1 * y3 + x2 * y5) 3600, cf (x3 * y1 + x4 * y3 + x5 * y5) 3600], okF f = true := by
    simp only [List.mem_cons, List.not_mem_nil, or_false, forall_eq_or_imp, forall_eq]; exact ⟨k3 _ c00.2, k3 _ c10.2, k3 _ c01.2, k3 _ c11.2⟩
  have f0 := inn2 (K := 4320000) (J := 1200) (d := 3600) (e := 60) (by omega) (by omega) c00.2 c01.2 r0 r1 (by omega) (by omega)
  have f1 := inn2 (K := 4320000) (J := 1200) (d := 3600) (e := 60) (by omega) (by omega) c10.2 c11.2 r0 r1 (by omega) (by omega)
  have g0 := inn3 (K := 1200) (J := 2880000) (d := 60) (e := 3600) (by omega) (by omega) p0 p1 p2 w0 w1 w2 (by omega) (by omega)
  have g1 := inn3 (K := 1200) (J := 2880000) (d := 60) (e := 3600) (by omega) (by omega) p3 p4 p5 w0 w1 w2 (by omega) (by omega)
  have h0 : x0 * (y0 * z0 + y1 * z1) + x1 * (y2 * z0 + y3 * z1) + x2 * (y4 * z0 + y5 * z1) = (x0 * y0 + x1 * y2 + x2 * y4) * z0 + (x0 * y1 + x1 * y3 + x2 * y5) * z1 := by
    simp only [Int.add_mul, Int.mul_add, Int.mul_assoc]; omega
  have h1 : x3 * (y0 * z0 + y1 * z1) + x4 * (y2 * z0 + y3 * z1) + x5 * (y4 * z0 + y5 * z1) = (x3 * y0 + x4 * y2 + x5 * y4) * z0 + (x3 * y1 + x4 * y3 + x5 * y5) * z1 := by
    simp only [Int.add_mul, Int.mul_add, Int.mul_assoc]; omega
  rw [h0] at g0
  rw [h1] at g1
  have eX : apL innV [cf (x0 * y0 + x1 * y2 + x2 * y4) 3600, cf (x0 * y1 + x1 * y3 + x2 * y5) 3600, cf (x3 * y0 + x4 * y2 + x5 * y4) 3600, cf (x3 * y1 + x4 * y3 + x5 * y5) 3600] 2 [cf z0 60, cf z1 60] 2 =
      [cf ((x0 * y0 + x1 * y2 + x2 * y4) * z0 + (x0 * y1 + x1 * y3 + x2 * y5) * z1) (3600 * 60), cf ((x3 * y0 + x4 * y2 + x5 * y4) * z0 + (x3 * y1 + x4 * y3 + x5 * y5) * z1) (3600 * 60)] := by
    rw [← f0, ← f1]; rfl
  have eY : apL innV [cf y0 60, cf y1 60, cf y2 60, cf y3 60, cf y4 60, cf y5 60] 2 [cf z0 60, cf z1 60] 3 = [cf (y0 * z0 + y1 * z1) 3600, cf (y2 * z0 + y3 * z1) 3600, cf (y4 * z0 + y5 * z1) 3600] := by
    rw [show (3600 : Nat) = 60 * 60 from rfl, ← d00, ← d10, ← d20]; rfl
  have eZ : apL innV [cf x0 60, cf x1 60, cf x2 60, cf x3 60, cf x4 60, cf x5 60] 3 [cf (y0 * z0 + y1 * z1) 3600, cf (y2 * z0 + y3 * z1) 3600, cf (y4 * z0 + y5 * z1) 3600] 2 =
      [cf ((x0 * y0 + x1 * y2 + x2 * y4) * z0 + (x0 * y1 + x1 * y3 + x2 * y5) * z1) (3600 * 60), cf ((x3 * y0 + x4 * y2 + x5 * y4) * z0 + (x3 * y1 + x4 * y3 + x5 * y5) * z1) (3600 * 60)] := by
    rw [show (3600 * 60 : Nat) = 60 * 3600 from rfl, ← g0, ← g1]; rfl
  have bX0 : Bd ((x0 * y0 + x1 * y2 + x2 * y4) * z0 + (x0 * y1 + x1 * y3 + x2 * y5) * z1) 10368000000 := bd_add (bd_mul c00.2 r0) (bd_mul c01.2 r1)
  have bX1 : Bd ((x3 * y0 + x4 * y2 + x5 * y4) * z0 + (x3 * y1 + x4 * y3 + x5 * y5) * z1) 10368000000 := bd_add (bd_mul c10.2 r0) (bd_mul c11.2 r1)
  have okX : ∀ f ∈ [cf ((x0 * y0 + x1 * y2 + x2 * y4) * z0 + (x0 * y1 + x1 * y3 + x2 * y5) * z1) (3600 * 60), cf ((x3 * y0 + x4 * y2 + x5 * y4) * z0 + (x3 * y1 + x4 * y3 + x5 * y5) * z1) (3600 * 60)], okF f = true := by
    simp only [List.mem_cons, List.not_mem_nil, or_false, forall_eq_or_imp, forall_eq]
    exact ⟨ok_bd (by omega) bX0 (by omega) (by omega), ok_bd (by omega) bX1 (by omega) (by omega)⟩
  have okY : ∀ f ∈ [cf (y0 * z0 + y1 * z1) 3600, cf (y2 * z0 + y3 * z1) 3600, cf (y4 * z0 + y5 * z1) 3600], okF f = true := by
    simp only [List.mem_cons, List.not_mem_nil, or_false, forall_eq_or_imp, forall_eq]
    exact ⟨ok_bd (by omega) w0 (by omega) (by omega), ok_bd (by omega) w1 (by omega) (by omega), ok_bd (by omega) w2 (by omega) (by omega)⟩
  refine ⟨_, _, _, _, _, _, ⟨mA, mB, mp_mk mA mB eAB (fine_mk okAB), tp_mk mB hTB, tp_mk mA hTA, mp_mk mTB mTA eBA (fine_mk okBA),
    am_mk mAB (vecB_mk (by simp) okV) rfl eX (fine_mk okX), am_mk mB (vecB_mk (by simp) okV) rfl eY (fine_mk okY), am_mk mA (vecB_mk (by simp) okY) rfl eZ (fine_mk okX),
    tp_mk mAB rfl, mAB, ?_, ?_⟩, rfl, rfl, rfl, rfl, rfl, rfl⟩
  · unfold rowL rowOk
    rw [show matB ratOk 2 3 [cf x0 60, cf x1 60, cf x2 60, cf x3 60, cf x4 60, cf x5 60] = true from mA]
    rfl
  · intro h5
    unfold cellF rowOk
    rw [show matB ratOk 2 3 [cf x0 60, cf x1 60, cf x2 60, cf x3 60, cf x4 60, cf x5 60] = true from mA]
    rfl

end Go.Proofs.Ytojklmckjebplaa
