/- The parts of the long division of the program: the copy of a number, the guess of a digit, and taking a multiple from, or adding to, a row of limbs in place. -/
import Derived.Test.YtofmpfcbdemcnaaDoorSpecDiv
import Derived.Test.YtofmpfcbdemcnaaDoorNum6
import Derived.Lib.SliceRun
namespace Go.Proofs.YtofmpfcbdemcnaaDoor
open Go.RowKit Go.WideShapes Go.ChangeShapes
set_option maxRecDepth 100000

set_option maxHeartbeats 400000 in
theorem impl_clone (v : Value) (x : Nat) (w : World) (h : RowOf iV w v (limI x)) (hx : nlen x ≤ 1000) :
    Calls Tryd.prog 57 #[v] w fun e w' => ∃ v', e = .returned v' ∧ OwnI w' w.heap.size v' (limI x) ∧ Below w.heap.size w w' := by
  have H := Lib.hid h
  obtain ⟨a, c, rfl, hc, hm, hr⟩ := h
  have hq := fun W : World => Lib.run_eql_slice_nil (P := Tryd.prog) W 53 3 a (limI x).length c 0 0 Tryd.underlying53
  cases a with
  | none =>
    have hl : limI x = [] := by
      cases hL : limI x with
      | nil => rfl
      | cons y r => obtain ⟨b, o, e, _⟩ := hr 0 (by rw [hL]; simp); cases e
    have HL := Lib.hid hl
    clear hl hr hc hm H
    simp only [Option.isNone_none] at hq
    go_enter Tryd.func57, Tryd.ntmps57
    go_wp2
    go_ret
    exact ⟨_, rfl, by rw [HL.out]; exact OwnI.nil _ _, Below.refl _ _⟩
  | some ad =>
    clear hr hc hm
    simp only [Option.isNone_some] at hq
    have hlen : ([] : List Int).length + (limI x).length ≤ 1099511627776 := by rw [limI_length]; simp; omega
    have HR := Lib.hid (fun o => rowOf_below H.out ((Below.refl w.heap.size w).alloc (Nat.le_refl _) o))
    go_enter Tryd.func57, Tryd.ntmps57
    go_wp2_with (at_builtin; refine append_ints rfl _ _ 53 Tryd.underlying53 rfl w.heap.size _ _ [] (limI x) rfl (OwnI.lit0 w) rfl (HR.out _) hlen (by simp) ?_; intro v' w1 h1 hg1)
    go_ret
    refine ⟨v', rfl, ?_, ((Below.refl _ w).alloc (Nat.le_refl _) _).grown hg1 (by simp) (fun k hk => ((OwnI.lit0 w).lt k hk).1)⟩
    rw [List.nil_append] at h1
    exact h1

/-! the guess -/
set_option maxHeartbeats 1000000 in
theorem impl_guess (va vb : Value) (P v n : Nat) (w : World) (ha : RowOf iV w va (listF (n + 3) (digF P))) (hb : RowOf iV w vb (limI v)) (hv : nlen v = n + 2) (hP : P < pw (n + 3)) (hd : 500000000 ≤ dig v (n + 1)) (hn : n ≤ 1000) :
    Calls Tryd.prog 73 #[va, vb] w fun e w' => e = .returned (.int .i64 ((P / pw n / (v / pw n) : Nat) : Int)) ∧ P / pw n / (v / pw n) < 2000000000 ∧ ∃ q, w' = w.drewN q := by
  have RA := Lib.hid ha
  obtain ⟨aa, ca, rfl, h1, h2, hr⟩ := ha
  rw [listF_length] at RA ⊢
  have HC : Hid (∀ i, i < n + 3 → ∃ b o, aa = some ⟨b, o, none⟩ ∧ w.cell? ⟨b, o + i, none⟩ = some (.int .i64 (dig P i))) := fun i hi => by
    obtain ⟨b, o, e, hx⟩ := hr i (by rw [listF_length]; exact hi)
    rw [listF_get] at hx
    exact ⟨b, o, e, hx⟩
  have RB := Lib.hid hb
  obtain ⟨ab, cb, rfl, h4, h5, h6⟩ := hb
  clear h1 h2 h4 h5 h6 hr
  rw [limI_length, hv] at RB ⊢
  have HV := Lib.hid hv
  obtain ⟨b1, o1, rfl, c1⟩ := HC.out n (by omega)
  obtain ⟨b1', o1', e1, c2⟩ := HC.out (n + 1) (by omega)
  injection e1 with e1; injection e1 with e1 e1'; subst e1 e1'
  obtain ⟨b1', o1', e1, c3⟩ := HC.out (n + 2) (by omega)
  injection e1 with e1; injection e1 with e1 e1'; subst e1 e1'
  obtain ⟨b2, o2, rfl, c4⟩ := row_limb RB.out (k := n) (by omega)
  obtain ⟨b2', o2', e2, c5⟩ := row_limb RB.out (k := n + 1) (by omega)
  injection e2 with e2; injection e2 with e2 e2'; subst e2 e2'
  -- the numbers
  have hU : P / pw n = (dig P (n + 2) * 1000000000 + dig P (n + 1)) * 1000000000 + dig P n := by
    rw [div_step P n, div_step P (n + 1)]
    have : P / pw (n + 1 + 1) = dig P (n + 2) := (dig_of_lt hP).symm
    rw [this]
  have hW : v / pw n = dig v (n + 1) * 1000000000 + dig v n := by
    rw [div_step v n]
    have hl : v < pw (n + 1 + 1) := by have := lt_pw_nlen v; rw [hv] at this; exact this
    rw [dig_of_lt hl]
  have d1 := dig_lt P n
  have d2 := dig_lt P (n + 1)
  have d3 := dig_lt P (n + 2)
  have d4 := dig_lt v n
  have d5 := dig_lt v (n + 1)
  obtain ⟨p0, h0⟩ : ∃ p, dig P n = p := ⟨_, rfl⟩
  obtain ⟨p1, h1⟩ : ∃ p, dig P (n + 1) = p := ⟨_, rfl⟩
  obtain ⟨p2, h2⟩ : ∃ p, dig P (n + 2) = p := ⟨_, rfl⟩
  obtain ⟨v2, h3⟩ : ∃ p, dig v n = p := ⟨_, rfl⟩
  obtain ⟨v1, h4⟩ : ∃ p, dig v (n + 1) = p := ⟨_, rfl⟩
  rw [h0, h1, h2] at hU
  rw [h3, h4] at hW
  rw [hU, hW]
  rw [h0] at c1 d1
  rw [h1] at c2 d2
  rw [h2] at c3 d3
  rw [h3] at c4 d4
  rw [h4] at c5 d5 hd
  have hv0 : 0 < v1 := by omega
  have HF := Lib.hid (guess_first (top := p2 * 1000000000 + p1) (v2 := v2) hv0 d1)
  have HS := Lib.hid (guess_small (top := p2 * 1000000000 + p1) (v1 := v1) (by omega) hd)
  have HT := Lib.hid (fun q r hr => guess_test (top := p2 * 1000000000 + p1) (p0 := p0) (v2 := v2) (q := q) (r := r) hv0 hr)
  obtain ⟨G, hG⟩ : ∃ G, ((p2 * 1000000000 + p1) * 1000000000 + p0) / (v1 * 1000000000 + v2) = G := ⟨_, rfl⟩
  rw [hG] at HF HT ⊢
  have HDM := Lib.hid (Nat.div_add_mod (p2 * 1000000000 + p1) v1)
  have HML := Lib.hid (Nat.mod_lt (p2 * 1000000000 + p1) hv0)
  obtain ⟨q0, hq0⟩ : ∃ q, (p2 * 1000000000 + p1) / v1 = q := ⟨_, rfl⟩
  obtain ⟨r0, hr0⟩ : ∃ r, (p2 * 1000000000 + p1) % v1 = r := ⟨_, rfl⟩
  rw [hq0] at HF HS HDM
  rw [hr0] at HDM HML
  have hqi : ((p2 : Int) * 1000000000 + (p1 : Int)) / (v1 : Int) = (q0 : Int) := by rw [← hq0]; simp
  have hri : ((p2 : Int) * 1000000000 + (p1 : Int)) % (v1 : Int) = (r0 : Int) := by rw [← hr0]; simp
  have hqt : ((p2 : Int) * 1000000000 + (p1 : Int)).tdiv (v1 : Int) = (q0 : Int) := by rw [← hq0]; rw [Int.tdiv_eq_ediv_of_nonneg (by omega)]; simp
  have hrt : ((p2 : Int) * 1000000000 + (p1 : Int)).tmod (v1 : Int) = (r0 : Int) := by rw [← hr0]; rw [Int.tmod_eq_emod_of_nonneg (by omega)]; simp
  have hq0b : q0 < 2000000000 := HS.out
  have HGS : Hid (G < 2000000000) := by have h1 := HF.out; have h2 := HS.out; unfold Hid; omega
  have e1 : ((n : Int) + 2 - 1).toNat = n + 1 := by omega
  have e2 : ((n : Int) + 2 - 2).toNat = n := by omega
  have e3 : ((n : Int) + 2).toNat = n + 2 := by omega
  have hvz : ((v1 : Int) == 0) = false := by simp; omega
  have hv3 : (0 : Int) < (v1 : Int) := by omega
  clear hG hq0 hr0 h0 h1 h2 h3 h4 hU hW HC HV hv
  go_enter Tryd.func73, Tryd.ntmps73
  go_wp2
  go_quiet (fail)
  go_wp2
  go_quiet (fail)
  go_wp2
  go_loopw [7, 8] (fun qv rv wr => ∃ q r nd : Nat, qv = .int .i64 q ∧ rv = .int .i64 r ∧ q < 2000000000 ∧ r < 3000000000 ∧ G ≤ q ∧ Hid (p2 * 1000000000 + p1 = q * v1 + r) ∧ wr = w.drewN nd) (fun qv _ _ => (intOf qv).toNat)
  case atStart => exact ⟨q0, r0, _, rfl, rfl, hq0b, by have := HML.out; omega, HF.out, by unfold Hid; rw [← HDM.out, Nat.mul_comm], World.drewN_drewN _ _ _⟩
  case round =>
    obtain ⟨q, r, nd, rfl, rfl, hq, hr, hg, HE, rfl⟩ := hrel
    have HTq := Lib.hid (HT.out q r HE.out)
    have hprb : q * v2 ≤ 2000000000 * 1000000000 := Nat.mul_le_mul (by omega) (by omega)
    obtain ⟨pr, hpr⟩ : ∃ pr, q * v2 = pr := ⟨_, rfl⟩
    rw [hpr] at HTq hprb
    have hpi : (q : Int) * (v2 : Int) = (pr : Int) := by rw [← hpr]; simp
    clear hpr hqi hri hqt hrt
    by_cases hgq : G < q
    · have hlt : r * 1000000000 + p0 < pr := HTq.out.2 hgq
      have hlti : (r : Int) * 1000000000 + (p0 : Int) < (pr : Int) := by omega
      have HN : Hid (p2 * 1000000000 + p1 = (q - 1) * v1 + (r + v1)) := by
        unfold Hid
        rw [HE.out]
        obtain ⟨k, rfl⟩ : ∃ k, q = k + 1 := ⟨q - 1, by omega⟩
        rw [Nat.add_sub_cancel, Nat.succ_mul]; omega
      go_wp2
      go_quiet (fail)
      go_wp2
      go_roundw
      case rel => exact ⟨q - 1, r + v1, _, by go_num, by go_num, by omega, by omega, by omega, HN, rfl⟩
      case measure => simp [intOf]; omega
    · obtain rfl : q = G := by omega
      have hlt : ¬ r * 1000000000 + p0 < pr := fun h => hgq (HTq.out.1 h)
      have hlti : (pr : Int) ≤ (r : Int) * 1000000000 + (p0 : Int) := by omega
      go_wp2
      go_quiet (fail)
      go_wp2
      go_ret
      exact ⟨rfl, HGS.out, _, World.drewN_drewN _ _ _⟩


/-! in place -/
theorem mixF_set {N R o k Q : Nat} : (listF N (mixF R o k Q)).set (o + k) ((dig Q k : Nat) : Int) = listF N (mixF R o (k + 1) Q) := by
  apply List.ext_getElem (by simp [listF_length])
  intro j h1 h2
  rw [List.getElem_set, listF_get, listF_get, ← mixF_next]
  by_cases e : o + k = j
  · subst e; simp
  · rw [if_neg e, if_neg (fun h => e h.symm)]
/-- a row is as it was where another block alone has turned -/
theorem rowOf_grown {w w' : World} {a : Option Addr} {n c x g : Nat} (h : RowOf iV w (.slice a n c) (limI x)) (hg : w.grownBy w' (some g)) (hne : ∀ b o, a = some ⟨b, o, none⟩ → b ≠ g) : RowOf iV w' (.slice a n c) (limI x) := by
  obtain ⟨a', c', e, h1, h2, h3⟩ := h
  refine ⟨a', c', e, h1, h2, fun i hi => ?_⟩
  obtain ⟨b, o, e2, hx⟩ := h3 i hi
  injection e with e3 e4 e5
  subst e3
  exact ⟨b, o, e2, hg.cell hx (fun e => by injection e with e; exact hne b o e2 e)⟩

set_option maxHeartbeats 2000000 in
theorem impl_lower (g N R o len cp q v : Nat) (vb : Value) (ab : Option Addr) (nb cb B : Nat) (w : World) (h : OwnI w B (.slice (some ⟨g, 0, none⟩) N N) (listF N (digF R))) (ho : o + len ≤ N) (hN : N ≤ 1000)
    (hvb : vb = .slice ab nb cb) (hb : RowOf iV w vb (limI v)) (hne : ∀ b o, ab = some ⟨b, o, none⟩ → b ≠ g) (hv : v < pw len) (hq : q < 2000000000) :
    Calls Tryd.prog 74 #[.slice (some ⟨g, o, none⟩) len cp, .int .i64 q, vb] w fun e w' =>
      e = .returned (.bool (decide (R / pw o % pw len < q * v))) ∧ OwnI w' B (.slice (some ⟨g, 0, none⟩) N N) (listF N (digF (putN R o len (lowP (R / pw o % pw len) q v len)))) ∧ w.grownBy w' (some g) := by
  have RB := Lib.hid hb
  obtain ⟨P, hP⟩ : ∃ P, R / pw o % pw len = P := ⟨_, rfl⟩
  have hPl : P < pw len := by rw [← hP]; exact Nat.mod_lt _ (pw_pos len)
  have HPd : Hid (∀ k, k < len → dig P k = dig R (o + k)) := fun k hk => by rw [← hP]; exact dig_part R o len k hk
  rw [hP]
  have HN0 := Lib.hid (low_neg (P := P) (q := q) (v := v) hPl hv)
  have HB := Lib.hid (fun k => lowC_bound P q v k)
  have HS := Lib.hid (fun (k : Nat) (hk : k < len) (c a e : Nat) hc ha he => low_step (P := P) (q := q) (v := v) hk (c := c) (a := a) (e := e) hc ha he)
  have HZ := Lib.hid (lowC_zero P q v)
  have HPL := Lib.hid (lowP_lt P q v len)
  have H0 : Hid (OwnI w B (.slice (some ⟨g, 0, none⟩) N N) (listF N (mixF R o 0 (lowP P q v len)))) := by
    unfold Hid
    rw [listF_congr (G := digF R) (fun i _ => mixF_zero R o _ i)]
    exact h
  have HF : Hid (listF N (mixF R o len (lowP P q v len)) = listF N (digF (putN R o len (lowP P q v len)))) := listF_congr (fun i _ => mixF_full HPL.out i)
  have HNE := Lib.hid hne
  subst hvb
  clear h hb hP hPl hv hne
  go_enter Tryd.func74, Tryd.ntmps74
  go_wp2
  go_loopw [7, 11] (fun bv iv wr => ∃ k c : Nat, k ≤ len ∧ iv = .int .i64 k ∧ bv = .int .i64 c ∧ Hid ((c : Int) = lowC P q v k) ∧ Hid (OwnI wr B (.slice (some ⟨g, 0, none⟩) N N) (listF N (mixF R o k (lowP P q v len)))) ∧ Hid (w.grownBy wr (some g))) (fun _ iv _ => len - (intOf iv).toNat)
  case atStart => exact ⟨0, 0, Nat.zero_le _, rfl, rfl, HZ.out.symm, H0, grownBy_refl _ _⟩
  case round =>
    obtain ⟨k, c, hk, rfl, rfl, HC, HK, HG⟩ := hrel
    have hcb : c ≤ 2000000000 := by have h1 := (HB.out k).2; have h2 := HC.out; omega
    by_cases hlt : k < len
    · have hR1 := Lib.hid (rowOf_grown RB.out HG.out HNE.out)
      have hal : dig P k < 1000000000 := dig_lt _ _
      have hel := dig_lt v k
      have hcl := HK.out.cell (o + k) (by rw [listF_length]; omega)
      rw [listF_get, mixF_at, ← HPd.out k hlt] at hcl
      have hfz := HK.out.frozen (o + k)
      have HSk := Lib.hid (fun a e ha he => HS.out k hlt c a e HC.out ha he)
      obtain ⟨a, ha⟩ : ∃ a, dig P k = a := ⟨_, rfl⟩
      obtain ⟨e, he⟩ : ∃ e, dig v k = e := ⟨_, rfl⟩
      have HSk1 := Lib.hid (HSk.out a e ha he)
      have HE := Lib.hid he
      rw [ha] at hal hcl
      rw [he] at hel
      have hprb : q * e ≤ 2000000000 * 1000000000 := Nat.mul_le_mul (by omega) (by omega)
      obtain ⟨pr, hpr⟩ : ∃ pr, q * e = pr := ⟨_, rfl⟩
      rw [hpr] at HSk1 hprb
      have hpi : (q : Int) * (e : Int) = (pr : Int) := by rw [← hpr]; simp
      have hidx : ((k : Int)).toNat = k := by omega
      clear ha he hpr HSk
      have hm := Nat.mod_lt (c + pr) (show 0 < 1000000000 by omega)
      by_cases hge : (c + pr) % 1000000000 ≤ a
      · obtain ⟨h1, h2⟩ := HSk1.out.1 hge
        have HO2 : Hid (OwnI (wr.setCell ⟨g, o + k, none⟩ (.int .i64 ((a : Int) - ((c : Int) + (pr : Int)) % 1000000000))) B (.slice (some ⟨g, 0, none⟩) N N) (listF N (mixF R o (k + 1) (lowP P q v len)))) := by
          have h := HK.out.set (o + k) ((a : Int) - ((c : Int) + (pr : Int)) % 1000000000)
          rw [show ((a : Int) - ((c : Int) + (pr : Int)) % 1000000000) = ((dig (lowP P q v len) k : Nat) : Int) by rw [h1]; omega] at h ⊢
          rw [mixF_set] at h
          exact h
        have HG2 := Lib.hid (grownBy_trans HG.out (setCell_grown wr g (o + k) (.int .i64 ((a : Int) - ((c : Int) + (pr : Int)) % 1000000000))))
        have HC2 := Lib.hid h2
        clear h1 h2
        have hnn : 0 ≤ (a : Int) - ((c : Int) + (pr : Int)) % 1000000000 := by omega
        go_wp2_with fail
        refine (at_dig _ v k _ hR1.out (by omega)).mono ?_
        rintro e' w1 ⟨rfl, rfl⟩
        rw [HE.out]
        go_wp2
        go_roundw
        case rel => exact ⟨k + 1, (c + pr) / 1000000000, by omega, by go_num, by go_num, HC2.out, HO2, HG2⟩
        case measure => simp [intOf]; omega
      · obtain ⟨h1, h2⟩ := HSk1.out.2 (by omega)
        have HO2 : Hid (OwnI ((wr.setCell ⟨g, o + k, none⟩ (.int .i64 ((a : Int) - ((c : Int) + (pr : Int)) % 1000000000))).setCell ⟨g, o + k, none⟩ (.int .i64 ((a : Int) - ((c : Int) + (pr : Int)) % 1000000000 + 1000000000))) B (.slice (some ⟨g, 0, none⟩) N N) (listF N (mixF R o (k + 1) (lowP P q v len)))) := by
          have h := (HK.out.set (o + k) ((a : Int) - ((c : Int) + (pr : Int)) % 1000000000)).set (o + k) ((a : Int) - ((c : Int) + (pr : Int)) % 1000000000 + 1000000000)
          rw [List.set_set] at h
          rw [show ((a : Int) - ((c : Int) + (pr : Int)) % 1000000000 + 1000000000) = ((dig (lowP P q v len) k : Nat) : Int) by rw [h1]; omega] at h ⊢
          rw [mixF_set] at h
          exact h
        have HG2 := Lib.hid (grownBy_trans (grownBy_trans HG.out (setCell_grown wr g (o + k) (.int .i64 ((a : Int) - ((c : Int) + (pr : Int)) % 1000000000)))) (setCell_grown _ g (o + k) (.int .i64 ((a : Int) - ((c : Int) + (pr : Int)) % 1000000000 + 1000000000))))
        have HC2 := Lib.hid h2
        clear h1 h2
        have hnn : (a : Int) - ((c : Int) + (pr : Int)) % 1000000000 < 0 := by omega
        go_wp2_with fail
        refine (at_dig _ v k _ hR1.out (by omega)).mono ?_
        rintro e' w1 ⟨rfl, rfl⟩
        rw [HE.out]
        go_wp2
        go_roundw
        case rel => exact ⟨k + 1, (c + pr) / 1000000000 + 1, by omega, by go_num, by go_num, by have := HC2.out; unfold Hid; omega, HO2, HG2⟩
        case measure => simp [intOf]; omega
    · obtain rfl : k = len := by omega
      have HD : Hid (decide (P < q * v) = decide (0 < c)) := by
        unfold Hid
        have h1 := HN0.out
        rw [← HC.out] at h1
        exact decide_eq_decide.2 ⟨fun h => by have := h1.2 h; omega, fun h => h1.1 (by omega)⟩
      have HO2 : Hid (OwnI wr B (.slice (some ⟨g, 0, none⟩) N N) (listF N (digF (putN R o k (lowP P q v k))))) := by rw [← HF.out]; exact HK
      go_wp2
      go_ret
      exact ⟨by rw [HD.out]; rfl, HO2.out, HG.out⟩

set_option maxHeartbeats 2000000 in
theorem impl_raise (g N R o len cp v : Nat) (vb : Value) (ab : Option Addr) (nb cb B : Nat) (w : World) (h : OwnI w B (.slice (some ⟨g, 0, none⟩) N N) (listF N (digF R))) (ho : o + len ≤ N) (hN : N ≤ 1000)
    (hvb : vb = .slice ab nb cb) (hb : RowOf iV w vb (limI v)) (hne : ∀ b o, ab = some ⟨b, o, none⟩ → b ≠ g) :
    Calls Tryd.prog 75 #[.slice (some ⟨g, o, none⟩) len cp, vb] w fun e w' =>
      (∃ u, e = .returned u) ∧ OwnI w' B (.slice (some ⟨g, 0, none⟩) N N) (listF N (digF (putN R o len (highP (R / pw o % pw len) v len)))) ∧ w.grownBy w' (some g) := by
  have RB := Lib.hid hb
  obtain ⟨P, hP⟩ : ∃ P, R / pw o % pw len = P := ⟨_, rfl⟩
  have HPd : Hid (∀ k, k < len → dig P k = dig R (o + k)) := fun k hk => by rw [← hP]; exact dig_part R o len k hk
  rw [hP]
  have HB := Lib.hid (fun k => highC_le P v k)
  have HS := Lib.hid (fun (k : Nat) (hk : k < len) (c a e : Nat) hc ha he => high_step (P := P) (v := v) hk (c := c) (a := a) (e := e) hc ha he)
  have HZ := Lib.hid (highC_zero P v)
  have HPL := Lib.hid (highP_lt P v len)
  have H0 : Hid (OwnI w B (.slice (some ⟨g, 0, none⟩) N N) (listF N (mixF R o 0 (highP P v len)))) := by
    unfold Hid
    rw [listF_congr (G := digF R) (fun i _ => mixF_zero R o _ i)]
    exact h
  have HF : Hid (listF N (mixF R o len (highP P v len)) = listF N (digF (putN R o len (highP P v len)))) := listF_congr (fun i _ => mixF_full HPL.out i)
  have HNE := Lib.hid hne
  subst hvb
  clear h hb hP hne
  go_enter Tryd.func75, Tryd.ntmps75
  go_wp2
  go_loopw [4, 8] (fun bv iv wr => ∃ k c : Nat, k ≤ len ∧ iv = .int .i64 k ∧ bv = .int .i64 c ∧ Hid (c = highC P v k) ∧ Hid (OwnI wr B (.slice (some ⟨g, 0, none⟩) N N) (listF N (mixF R o k (highP P v len)))) ∧ Hid (w.grownBy wr (some g))) (fun _ iv _ => len - (intOf iv).toNat)
  case atStart => exact ⟨0, 0, Nat.zero_le _, rfl, rfl, HZ.out.symm, H0, grownBy_refl _ _⟩
  case round =>
    obtain ⟨k, c, hk, rfl, rfl, HC, HK, HG⟩ := hrel
    have hcb : c ≤ 2 := by rw [HC.out]; exact HB.out k
    by_cases hlt : k < len
    · have hR1 := Lib.hid (rowOf_grown RB.out HG.out HNE.out)
      have hal : dig P k < 1000000000 := dig_lt _ _
      have hel := dig_lt v k
      have hcl := HK.out.cell (o + k) (by rw [listF_length]; omega)
      rw [listF_get, mixF_at, ← HPd.out k hlt] at hcl
      have hfz := HK.out.frozen (o + k)
      have HSk := Lib.hid (fun a e ha he => HS.out k hlt c a e HC.out ha he)
      have HAT := Lib.hid (fun W' (hW : RowOf iV W' (.slice ab nb cb) (limI v)) => at_dig _ v k W' hW (by omega))
      obtain ⟨a, ha⟩ : ∃ a, dig P k = a := ⟨_, rfl⟩
      obtain ⟨e, he⟩ : ∃ e, dig v k = e := ⟨_, rfl⟩
      have HSk1 := Lib.hid (HSk.out a e ha he)
      rw [ha] at hal hcl
      rw [he] at hel HAT
      clear ha he HSk
      have hm := Nat.mod_lt (c + (a + e)) (show 0 < 1000000000 by omega)
      go_wp2
      go_quiet ((go_at_call 88; exact Calls.quiet_of_same (HAT.out _ hR1.out)))
      go_wp2
      have hcast : (((c + (a + e)) % 1000000000 : Nat) : Int) = ((c : Int) + ((a : Int) + (e : Int))) % 1000000000 := by omega
      go_roundw
      case rel =>
        refine ⟨k + 1, (c + (a + e)) / 1000000000, by omega, by go_num, by go_num, HSk1.out.2, ?_, ?_⟩
        · have h := HK.out.set (o + k) (((c : Int) + ((a : Int) + (e : Int))) % 1000000000)
          rw [← hcast, ← HSk1.out.1, mixF_set, HSk1.out.1, hcast] at h
          exact h.drewN nq
        · exact grownBy_trans HG.out ⟨rfl, rfl, rfl, by simp [World.setCell], fun j _ hj => Below.heap_setCell wr ⟨g, o + k, none⟩ _ j (fun e => hj (by rw [e]))⟩
      case measure => simp [intOf]; omega
    · obtain rfl : k = len := by omega
      have HO2 : Hid (OwnI wr B (.slice (some ⟨g, 0, none⟩) N N) (listF N (digF (putN R o k (highP P v k))))) := by rw [← HF.out]; exact HK
      go_wp2
      go_end0
      exact ⟨⟨_, rfl⟩, HO2.out, HG.out⟩

end Go.Proofs.YtofmpfcbdemcnaaDoor
