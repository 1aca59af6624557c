/- leading of the program: the leading digits of a number. -/
import Derived.Test.YtofmpfcbdemcnaaDoorCompare
import Derived.Test.YtofmpfcbdemcnaaDoorNum3
import Derived.BigQuiet
import Derived.Deep.QuietTactic
namespace Go.Proofs.YtofmpfcbdemcnaaDoor
open Go.RowKit

attribute [local go_sem] Oper.semAt_some

theorem lead_eq {x k u c : Nat} (hu : u * c = 1000000000) (hx : x < pw (k + 3)) (hd : dig x (k + 2) < u) :
    (dig x (k + 2) * 1000000000 + dig x (k + 1)) * c + dig x k / u = x / (pw k * u) ∧ (dig x (k + 2) * 1000000000 + dig x (k + 1)) * c + dig x k / u < 1000000000000000000 ∧ (dig x (k + 2) * 1000000000 + dig x (k + 1)) * c ≤ 1000000000000000000 := by
  obtain ⟨Y, hY⟩ : ∃ Y, x / pw k = Y := ⟨_, rfl⟩
  have hYl : Y < 1000000000 * 1000000000 * 1000000000 := by
    rw [← hY]
    refine Nat.div_lt_of_lt_mul ?_
    have : pw (k + 3) = pw k * (1000000000 * 1000000000 * 1000000000) := by rw [pw_succ, pw_succ, pw_succ]; simp only [Nat.mul_assoc]
    rw [← this]; exact hx
  have d0 : dig x k = Y % 1000000000 := by rw [← hY]; rfl
  have d1 : dig x (k + 1) = Y / 1000000000 % 1000000000 := by rw [← hY, Nat.div_div_eq_div_mul, ← pw_succ]; rfl
  have d2 : dig x (k + 2) = Y / 1000000000 / 1000000000 := by
    have h1 : dig x (k + 2) = Y / 1000000000 / 1000000000 % 1000000000 := by rw [← hY, Nat.div_div_eq_div_mul, Nat.div_div_eq_div_mul, show pw k * (1000000000 * 1000000000) = pw (k + 2) by rw [pw_succ, pw_succ, Nat.mul_assoc]]; rfl
    rw [h1]; exact Nat.mod_eq_of_lt (by omega)
  have hu0 : 0 < u := by rcases Nat.eq_zero_or_pos u with h | h; · rw [h] at hu; omega
                         · exact h
  obtain ⟨a, ha⟩ : ∃ a, dig x (k + 2) * 1000000000 + dig x (k + 1) = a := ⟨_, rfl⟩
  have hY2 : Y = a * 1000000000 + dig x k := by rw [← ha, d0, d1, d2]; omega
  have h0 : dig x k < 1000000000 := dig_lt _ _
  have h1 : dig x (k + 1) < 1000000000 := dig_lt _ _
  have hab : a + 1 ≤ u * 1000000000 := by
    have : (dig x (k + 2) + 1) * 1000000000 ≤ u * 1000000000 := Nat.mul_le_mul_right _ hd
    omega
  have hac : a * c + c ≤ 1000000000 * 1000000000 := by
    have h2 : (a + 1) * c ≤ u * 1000000000 * c := Nat.mul_le_mul_right _ hab
    have h3 : u * 1000000000 * c = 1000000000 * 1000000000 := by rw [Nat.mul_right_comm, hu]
    have h4 : (a + 1) * c = a * c + c := Nat.succ_mul a c
    omega
  have hq : dig x k / u < c := by
    refine Nat.div_lt_of_lt_mul ?_
    rw [hu]; exact h0
  rw [ha]
  refine ⟨?_, by omega, by omega⟩
  rw [← Nat.div_div_eq_div_mul, hY, hY2, ← hu, show a * (u * c) + dig x k = dig x k + a * c * u by rw [Nat.mul_comm u c, ← Nat.mul_assoc]; omega, Nat.add_mul_div_right _ _ hu0, Nat.add_comm]

set_option maxHeartbeats 1000000 in
theorem impl_leading (v : Value) (x k u c : Nat) (w : World) (h : RowOf iV w v (limI x)) (hu : u * c = 1000000000) (hx : x < pw (k + 3)) (hd : dig x (k + 2) < u) (hk : k ≤ 1000) :
    Calls Tryd.prog 77 #[v, .int .i64 ((k : Int) + 2), .int .i64 u] w fun e w' => e = .returned (.int .i64 ((x / (pw k * u) : Nat) : Int)) ∧ ∃ q, w' = w.drewN q := by
  have HE := lead_eq hu hx hd
  have hu0 : 0 < u := by omega
  have AT : Hid (∀ (W' : World) (z : Int), RowOf iV W' v (limI x) → 0 ≤ z → z ≤ 2000 → Calls Tryd.prog 88 #[v, .int .i64 z] W' fun e w' => e = .returned (.int .i64 (dig x z.toNat : Nat)) ∧ w' = W') := fun W' z hW h0 h1 => by
    have := at_dig v x z.toNat W' hW (by omega)
    rw [show ((z.toNat : Nat) : Int) = z by omega] at this
    exact this
  have RA := Lib.hid h
  have h0 : dig x k < 1000000000 := dig_lt _ _
  have h1 : dig x (k + 1) < 1000000000 := dig_lt _ _
  have h2 : dig x (k + 2) < 1000000000 := dig_lt _ _
  obtain ⟨d0, e0⟩ : ∃ d, dig x k = d := ⟨_, rfl⟩
  obtain ⟨d1, e1⟩ : ∃ d, dig x (k + 1) = d := ⟨_, rfl⟩
  obtain ⟨d2, e2⟩ : ∃ d, dig x (k + 2) = d := ⟨_, rfl⟩
  rw [e0] at HE h0
  rw [e1] at HE h1
  rw [e2] at HE h2
  have f0 : dig x ((k : Int)).toNat = d0 := by rw [← e0]; rfl
  have f1 : dig x ((k : Int) + 2 - 1).toNat = d1 := by rw [← e1]; congr 1; omega
  have f2 : dig x ((k : Int) + 2).toNat = d2 := by rw [← e2]; congr 1
  have f3 : dig x ((k : Int) + 2 - 2).toNat = d0 := by rw [← e0]; congr 1; omega
  have hcb : c ≤ 1000000000 := by rw [← hu]; exact Nat.le_mul_of_pos_left c hu0
  have hci : (1000000000 : Int) / (u : Int) = (c : Int) := by
    have h9 : (1000000000 : Int) = (u : Int) * (c : Int) := by rw [← Int.natCast_mul, hu]; rfl
    rw [h9]
    exact Int.mul_ediv_cancel_left _ (by omega)
  obtain ⟨p, hp⟩ : ∃ p, (d2 * 1000000000 + d1) * c = p := ⟨_, rfl⟩
  obtain ⟨r, hr⟩ : ∃ r, d0 / u = r := ⟨_, rfl⟩
  rw [hp, hr] at HE
  have hpi : ((d2 : Int) * 1000000000 + (d1 : Int)) * (c : Int) = (p : Int) := by rw [← hp]; simp
  have hri : (d0 : Int) / (u : Int) = (r : Int) := by rw [← hr]; simp
  have hct : (1000000000 : Int).tdiv (u : Int) = (c : Int) := by rw [Int.tdiv_eq_ediv_of_nonneg (by omega)]; exact hci
  have hrt : (d0 : Int).tdiv (u : Int) = (r : Int) := by rw [Int.tdiv_eq_ediv_of_nonneg (by omega)]; exact hri
  have huz : ((u : Int) == 0) = false := by simp; omega
  have hu3 : (0 : Int) < (u : Int) := by omega
  have hE := Lib.hid HE.1
  have hE1 := HE.2.1
  have hE2 := HE.2.2
  obtain ⟨a, cap, rfl, c1, c2, c3⟩ := h
  clear c1 c2 c3 HE hp hr hu hx hd
  rw [limI_length] at AT RA ⊢
  go_enter Tryd.func77, Tryd.ntmps77
  go_wp2
  go_quiet ((go_at_call 88; exact Calls.quiet_of_same (AT.out _ _ RA.out (by omega) (by omega))))
  have hw : wrap64 (wrap64 (wrap64 ((d2 : Int) * 1000000000 + (d1 : Int)) * (c : Int)) + (r : Int)) = ((p + r : Nat) : Int) := by
    rw [IntWalk.wrap64_in ((d2 : Int) * 1000000000 + (d1 : Int)) ⟨by omega, by omega⟩, hpi, IntWalk.wrap64_in (p : Int) ⟨by omega, by omega⟩, IntWalk.wrap64_in ((p : Int) + (r : Int)) ⟨by omega, by omega⟩]
    simp
  have HW := Lib.hid hw
  clear hw
  go_wp2
  go_ret
  exact ⟨by rw [← hE.out, ← HW.out]; rfl, _, rfl⟩

end Go.Proofs.YtofmpfcbdemcnaaDoor
