/- Products: times of the program and l02Mul of the model; the exact law of NatMul. -/
import Derived.Test.YtofmpfcbdemcnaaDoorSpecAdd
import Derived.Test.YtofmpfcbdemcnaaDoorNum4
namespace Go.Proofs.YtofmpfcbdemcnaaDoor
open Go.RowKit

/-- the product's row while limb i of x is multiplied: limbs below i + k are those of the new sum F, the others those of the old one P -/
theorem mul_start (P d y i N : Nat) : listF N (digF P) = fillU N i (digF (P + pw i * d * y)) (digF P) := by
  refine listF_congr (fun j hj => ?_)
  by_cases h : j < i
  · rw [if_pos h]; unfold digF; rw [mul_dig_low P d y i j h]
  · rw [if_neg h]
theorem mul_end (P F N M : Nat) (hP : P < pw M) (hF : F < pw M) : fillU N M (digF F) (digF P) = listF N (digF F) := by
  refine listF_congr (fun j hj => ?_)
  by_cases h : j < M
  · rw [if_pos h]
  · rw [if_neg h]; unfold digF; rw [dig_zero_of_lt (Nat.lt_of_lt_of_le hP (pw_mono (by omega))), dig_zero_of_lt (Nat.lt_of_lt_of_le hF (pw_mono (by omega)))]
theorem mul_step {P d y i k c p e : Nat} (hc : c = mulC P d y i k) (hp : dig P (i + k) = p) (he : dig y k = e) : ((c + (p + d * e)) % 1000000000 = dig (P + pw i * d * y) (i + k)) ∧ (c + (p + d * e)) / 1000000000 = mulC P d y i (k + 1) := by
  rw [mul_dig, mulC_succ, hc, hp, he]; exact ⟨rfl, rfl⟩
theorem mul_small2 {d e : Nat} (hd : d < 1000000000) (he : e < 1000000000) : d * e ≤ 999999998000000001 := by
  have : d * e ≤ 999999999 * 999999999 := Nat.mul_le_mul (by omega) (by omega)
  omega

set_option maxHeartbeats 2000000 in
theorem impl_times (va vb : Value) (x y : Nat) (w : World) (ha : RowOf iV w va (limI x)) (hb : RowOf iV w vb (limI y)) (hx : nlen x ≤ 1000) (hy : nlen y ≤ 1000) :
    Calls Tryd.prog 46 #[va, vb] w fun e w' => ∃ v, e = .returned v ∧ OwnI w' w.heap.size v (limI (x * y)) ∧ Below w.heap.size w w' := by
  have RA := Lib.hid ha
  have RB := Lib.hid hb
  obtain ⟨aa, ca, rfl, h1, h2, h3⟩ := ha
  obtain ⟨ab, cb, rfl, h4, h5, h6⟩ := hb
  clear h1 h2 h3 h4 h5 h6
  rw [limI_length] at RA RB ⊢
  rw [limI_length]
  have HLX := Lib.hid (lt_pw_nlen x)
  have HLY := Lib.hid (lt_pw_nlen y)
  obtain ⟨nx, hnx⟩ : ∃ nx, nlen x = nx := ⟨_, rfl⟩
  obtain ⟨ny, hny⟩ : ∃ ny, nlen y = ny := ⟨_, rfl⟩
  rw [hnx] at hx RA HLX ⊢
  rw [hny] at hy RB HLY ⊢
  have HNX := Lib.hid hnx
  have HNY := Lib.hid hny
  clear hnx hny
  have hmk := make_limbs (nx + ny) (by omega)
  rw [show ((nx + ny : Nat) : Int) = (nx : Int) + (ny : Int) by simp] at hmk
  have HO := Lib.hid (zeroObj_own w w.heap.size (nx + ny) (Nat.le_refl _) (by omega))
  have HB := Lib.hid ((Below.refl w.heap.size w).alloc (Nat.le_refl _) (zeroObj (nx + ny)))
  obtain ⟨N, hN⟩ : ∃ N, nx + ny = N := ⟨_, rfl⟩
  rw [hN] at HO HB hmk
  have hN2 : nx + ny ≤ N := by omega
  have hN3 : N ≤ nx + ny := by omega
  have HN := Lib.hid hN
  clear hN
  go_enter Tryd.func46, Tryd.ntmps46
  go_wp2
  clear hmk
  generalize w.alloc (zeroObj N) = W1 at HO HB ⊢
  obtain ⟨g, hg⟩ : ∃ g, w.heap.size = g := ⟨_, rfl⟩
  rw [hg] at HO HB ⊢
  have HG := Lib.hid hg
  clear hg
  go_loopw [8, 19] (fun cv0 iv wr => ∃ i : Nat, i ≤ nx ∧ iv = .int .i64 i ∧ Hid (OwnI wr g (.slice (some ⟨g, 0, none⟩) N N) (listF N (digF (x % pw i * y)))) ∧ Hid (Below g w wr)) (fun _ iv _ => nx - (intOf iv).toNat)
  case atStart => exact ⟨0, Nat.zero_le _, rfl, by rw [pw_zero, Nat.mod_one, Nat.zero_mul]; refine (show listF N (digF 0) = listF N (fun _ => 0) from listF_congr (fun i _ => ?_)) ▸ HO; unfold digF dig; simp, HB⟩
  case round =>
    obtain ⟨i, hi, rfl, HK, HBk⟩ := hrel
    by_cases hlt : i < nx
    · obtain ⟨b1, o1, rfl, hx1⟩ := row_limb (rowOf_below RA.out (by rw [HG.out]; exact HBk.out)) (k := i) (by rw [HNX.out]; exact hlt)
      have hdl := dig_lt x i
      have HF := Lib.hid (mul_next x y i)
      obtain ⟨d, hd⟩ : ∃ d, dig x i = d := ⟨_, rfl⟩
      rw [hd] at hx1 hdl HF
      have HPl := Lib.hid (mul_part_lt (x := x) (i := i) HLY.out)
      obtain ⟨P, hP⟩ : ∃ P, x % pw i * y = P := ⟨_, rfl⟩
      rw [hP] at HK HF HPl
      clear hd hP
      have HS := Lib.hid (mul_start P d y i N)
      rw [HS.out] at HK
      have HML := Lib.hid (fun k => mulC_le P d y i k)
      have HMZ := Lib.hid (mulC_zero P d y i)
      obtain ⟨wo, rfl⟩ : ∃ wo : World, wo = wr := ⟨_, rfl⟩
      go_wp2
      go_loopw [8, 26] (fun cv kv wr => ∃ k c : Nat, k ≤ ny ∧ kv = .int .i64 k ∧ cv = .int .i64 c ∧ c < 1000000000 ∧ Hid (c = mulC P d y i k) ∧ Hid (OwnI wr g (.slice (some ⟨g, 0, none⟩) N N) (fillU N (i + k) (digF (P + pw i * d * y)) (digF P))) ∧ Hid (Below g w wr)) (fun _ kv _ => ny - (intOf kv).toNat)
      case atStart => exact ⟨0, 0, Nat.zero_le _, rfl, rfl, by omega, HMZ.out.symm, HK, HBk⟩
      case round =>
        obtain ⟨k, c, hk, rfl, rfl, hc, HC, HK2, HB2⟩ := hrel
        by_cases hlk : k < ny
        · obtain ⟨b2, o2, rfl, hx2⟩ := row_limb (rowOf_below RB.out (by rw [HG.out]; exact HB2.out)) (k := k) (by rw [HNY.out]; exact hlk)
          have hcl1 := HK2.out.cell (i + k) (by rw [fillU_length]; omega)
          rw [fillU_get, if_neg (by omega)] at hcl1
          unfold digF at hcl1
          have hfz := HK2.out.frozen (i + k)
          have hel := dig_lt y k
          have hpl := dig_lt P (i + k)
          have HT := Lib.hid (fun p e (hp : dig P (i + k) = p) (he : dig y k = e) => mul_step HC.out hp he)
          have HM1 := Lib.hid (HML.out (k + 1))
          obtain ⟨e, he⟩ : ∃ e, dig y k = e := ⟨_, rfl⟩
          obtain ⟨p, hp⟩ : ∃ p, dig P (i + k) = p := ⟨_, rfl⟩
          rw [he] at hx2 hel
          rw [hp] at hcl1 hpl
          have HT1 := Lib.hid (HT.out p e hp he)
          have hpr := mul_small2 hdl hel
          obtain ⟨q, hq⟩ : ∃ q, d * e = q := ⟨_, rfl⟩
          rw [hq] at HT1 hpr
          have hqi : (d : Int) * (e : Int) = (q : Int) := by rw [← hq]; simp
          clear he hp hq
          have HO2 := Lib.hid (HK2.out.set (i + k) ((c + (p + q)) % 1000000000 : Nat))
          have HB3 := Lib.hid (HB2.out.setCell (p := ⟨g, i + k, none⟩) (Nat.le_refl _) (.int .i64 ((c + (p + q)) % 1000000000 : Nat)))
          rw [HT1.out.1] at HO2
          have HO3 : Hid (OwnI (wr.setCell ⟨g, i + k, none⟩ (.int .i64 ((c + (p + q)) % 1000000000 : Nat))) g (.slice (some ⟨g, 0, none⟩) N N) (fillU N (i + (k + 1)) (digF (P + pw i * d * y)) (digF P))) := by
            have h := HO2.out
            have e2 := fillU_set (n := N) (k := i + k) (F := digF (P + pw i * d * y)) (G := digF P) (by omega)
            unfold digF at e2 h ⊢
            rw [e2] at h
            unfold Hid
            rw [HT1.out.1]
            exact h
          have ecast : (((c + (p + q)) % 1000000000 : Nat) : Int) = ((c : Int) + ((p : Int) + (q : Int))) % 1000000000 := by omega
          rw [ecast] at HO3 HB3
          have HCn : Hid ((c + (p + q)) / 1000000000 < 1000000000) := by have h1 := HM1.out; rw [← HT1.out.2] at h1; unfold Hid; omega
          clear ecast HO2
          go_wp2
          go_roundw
          case rel => exact ⟨k + 1, (c + (p + q)) / 1000000000, by omega, by go_num, by go_num, HCn.out, HT1.out.2, HO3, HB3⟩
          case measure => simp [intOf]; omega
        · obtain rfl : k = ny := by omega
          have hcl1 := HK2.out.cell (i + k) (by rw [fillU_length]; omega)
          have hfz := HK2.out.frozen (i + k)
          have HE := Lib.hid (mul_dig_top (P := P) (d := d) (y := y) (i := i) (n := k) HPl.out HLY.out hdl)
          have HO2 := Lib.hid (HK2.out.set (i + k) (c : Int))
          have HB3 := Lib.hid (HB2.out.setCell (p := ⟨g, i + k, none⟩) (Nat.le_refl _) (.int .i64 c))
          have HO3 : Hid (OwnI (wr.setCell ⟨g, i + k, none⟩ (.int .i64 c)) g (.slice (some ⟨g, 0, none⟩) N N) (listF N (digF (x % pw (i + 1) * y)))) := by
            have h := HO2.out
            have e3 : (c : Int) = digF (P + pw i * d * y) (i + k) := by unfold digF; rw [HC.out, HE.out.1]
            have e2 := fillU_set (n := N) (k := i + k) (F := digF (P + pw i * d * y)) (G := digF P) (by omega)
            rw [← e3] at e2
            rw [e2, mul_end P _ N (i + k + 1) (Nat.lt_trans HPl.out (pw_lt (by omega))) HE.out.2, HF.out] at h
            exact h
          clear HO2
          go_wp2
          go_roundw
          case rel => exact ⟨i + 1, by omega, by go_num, HO3, HB3⟩
          case measure => simp [intOf]; omega
    · obtain rfl : i = nx := by omega
      have HT : Hid (nlen (x * y) ≤ N) := by
        unfold Hid
        rw [nlen_le_iff]
        refine Nat.lt_of_lt_of_le ?_ (pw_mono hN2)
        rw [pw_add]
        exact Nat.mul_lt_mul'' HLX.out HLY.out
      have HO1 := HK.out
      rw [Nat.mod_eq_of_lt HLX.out] at HO1
      have HT1 := Lib.hid (impl_trimmed _ (x * y) N g wr HO1 HT.out)
      clear HO1
      go_wp2_with fail
      refine HT1.out.mono ?_
      rintro e w2 ⟨v', rfl, o, _, rfl⟩
      have O := Lib.hid o
      clear o
      go_wp2
      go_ret
      exact ⟨_, rfl, by rw [HG.out]; exact O.out, by rw [HG.out]; exact HBk.out⟩

end Go.Proofs.YtofmpfcbdemcnaaDoor
