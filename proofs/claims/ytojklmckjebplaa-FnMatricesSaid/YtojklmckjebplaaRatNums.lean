/- What the sums and products of fractions answer. -/
import Derived.Test.YtojklmckjebplaaRatAns
import Derived.Test.YtojklmckjebplaaBigCmpLaw
namespace Go.Proofs.Ytojklmckjebplaa
open Go.RowKit
set_option linter.unusedVariables false
set_option linter.unusedSimpArgs false


def ratAddB (b0 : Bool) (zs0 ds0 : List Int) (b1 : Bool) (zs1 ds1 : List Int) : Bool := if ratOk b0 zs0 ds0 && ratOk b1 zs1 ds1 then mkB (sgAddB b0 (natI zs0 * natI ds1) b1 (natI zs1 * natI ds0)) (lowX (sgAddN b0 (natI zs0 * natI ds1) b1 (natI zs1 * natI ds0)) (natI ds0 * natI ds1)) (lowD (sgAddN b0 (natI zs0 * natI ds1) b1 (natI zs1 * natI ds0)) (natI ds0 * natI ds1)) else false
def ratAddZ (b0 : Bool) (zs0 ds0 : List Int) (b1 : Bool) (zs1 ds1 : List Int) : List Int := if ratOk b0 zs0 ds0 && ratOk b1 zs1 ds1 then mkZ (lowX (sgAddN b0 (natI zs0 * natI ds1) b1 (natI zs1 * natI ds0)) (natI ds0 * natI ds1)) (lowD (sgAddN b0 (natI zs0 * natI ds1) b1 (natI zs1 * natI ds0)) (natI ds0 * natI ds1)) else []
def ratAddD (b0 : Bool) (zs0 ds0 : List Int) (b1 : Bool) (zs1 ds1 : List Int) : List Int := if ratOk b0 zs0 ds0 && ratOk b1 zs1 ds1 then mkD (lowX (sgAddN b0 (natI zs0 * natI ds1) b1 (natI zs1 * natI ds0)) (natI ds0 * natI ds1)) (lowD (sgAddN b0 (natI zs0 * natI ds1) b1 (natI zs1 * natI ds0)) (natI ds0 * natI ds1)) else []
theorem ratAddZ_len (b0 : Bool) (zs0 ds0 : List Int) (b1 : Bool) (zs1 ds1 : List Int) : (ratAddZ b0 zs0 ds0 b1 zs1 ds1).length ≤ 1000 := by
  unfold ratAddZ; split
  · exact Nat.le_trans (mkZ_len _ _) (by omega)
  · simp
theorem ratAddD_len (b0 : Bool) (zs0 ds0 : List Int) (b1 : Bool) (zs1 ds1 : List Int) : (ratAddD b0 zs0 ds0 b1 zs1 ds1).length ≤ 1000 := by
  unfold ratAddD; split
  · exact Nat.le_trans (mkD_len _ _) (by omega)
  · simp
theorem ratAdd_no {b0 : Bool} {zs0 ds0 : List Int} {b1 : Bool} {zs1 ds1 : List Int} (h : ratOk b0 zs0 ds0 = false ∨ ratOk b1 zs1 ds1 = false) : ratAddB b0 zs0 ds0 b1 zs1 ds1 = false ∧ ratAddZ b0 zs0 ds0 b1 zs1 ds1 = [] ∧ ratAddD b0 zs0 ds0 b1 zs1 ds1 = [] := by
  unfold ratAddB ratAddZ ratAddD; rcases h with h | h <;> rw [h] <;> simp
theorem ratAdd_yes {b0 : Bool} {x d : Nat} {b1 : Bool} {y e : Nat} (h0 : ratOk b0 (limI x) (limI d) = true) (h1 : ratOk b1 (limI y) (limI e) = true) :
    ratAddB b0 (limI x) (limI d) b1 (limI y) (limI e) = mkB (sgAddB b0 (x * e) b1 (y * d)) (lowX (sgAddN b0 (x * e) b1 (y * d)) (d * e)) (lowD (sgAddN b0 (x * e) b1 (y * d)) (d * e)) ∧ ratAddZ b0 (limI x) (limI d) b1 (limI y) (limI e) = mkZ (lowX (sgAddN b0 (x * e) b1 (y * d)) (d * e)) (lowD (sgAddN b0 (x * e) b1 (y * d)) (d * e)) ∧ ratAddD b0 (limI x) (limI d) b1 (limI y) (limI e) = mkD (lowX (sgAddN b0 (x * e) b1 (y * d)) (d * e)) (lowD (sgAddN b0 (x * e) b1 (y * d)) (d * e)) := by
  unfold ratAddB ratAddZ ratAddD; rw [h0, h1, natI_limI, natI_limI, natI_limI, natI_limI]; exact ⟨rfl, rfl, rfl⟩


def ratSubB (b0 : Bool) (zs0 ds0 : List Int) (b1 : Bool) (zs1 ds1 : List Int) : Bool := if ratOk b0 zs0 ds0 && ratOk b1 zs1 ds1 then mkB (sgAddB b0 (natI zs0 * natI ds1) (!b1 && decide (0 < natI zs1)) (natI zs1 * natI ds0)) (lowX (sgAddN b0 (natI zs0 * natI ds1) (!b1 && decide (0 < natI zs1)) (natI zs1 * natI ds0)) (natI ds0 * natI ds1)) (lowD (sgAddN b0 (natI zs0 * natI ds1) (!b1 && decide (0 < natI zs1)) (natI zs1 * natI ds0)) (natI ds0 * natI ds1)) else false
def ratSubZ (b0 : Bool) (zs0 ds0 : List Int) (b1 : Bool) (zs1 ds1 : List Int) : List Int := if ratOk b0 zs0 ds0 && ratOk b1 zs1 ds1 then mkZ (lowX (sgAddN b0 (natI zs0 * natI ds1) (!b1 && decide (0 < natI zs1)) (natI zs1 * natI ds0)) (natI ds0 * natI ds1)) (lowD (sgAddN b0 (natI zs0 * natI ds1) (!b1 && decide (0 < natI zs1)) (natI zs1 * natI ds0)) (natI ds0 * natI ds1)) else []
def ratSubD (b0 : Bool) (zs0 ds0 : List Int) (b1 : Bool) (zs1 ds1 : List Int) : List Int := if ratOk b0 zs0 ds0 && ratOk b1 zs1 ds1 then mkD (lowX (sgAddN b0 (natI zs0 * natI ds1) (!b1 && decide (0 < natI zs1)) (natI zs1 * natI ds0)) (natI ds0 * natI ds1)) (lowD (sgAddN b0 (natI zs0 * natI ds1) (!b1 && decide (0 < natI zs1)) (natI zs1 * natI ds0)) (natI ds0 * natI ds1)) else []
theorem ratSubZ_len (b0 : Bool) (zs0 ds0 : List Int) (b1 : Bool) (zs1 ds1 : List Int) : (ratSubZ b0 zs0 ds0 b1 zs1 ds1).length ≤ 1000 := by
  unfold ratSubZ; split
  · exact Nat.le_trans (mkZ_len _ _) (by omega)
  · simp
theorem ratSubD_len (b0 : Bool) (zs0 ds0 : List Int) (b1 : Bool) (zs1 ds1 : List Int) : (ratSubD b0 zs0 ds0 b1 zs1 ds1).length ≤ 1000 := by
  unfold ratSubD; split
  · exact Nat.le_trans (mkD_len _ _) (by omega)
  · simp
theorem ratSub_no {b0 : Bool} {zs0 ds0 : List Int} {b1 : Bool} {zs1 ds1 : List Int} (h : ratOk b0 zs0 ds0 = false ∨ ratOk b1 zs1 ds1 = false) : ratSubB b0 zs0 ds0 b1 zs1 ds1 = false ∧ ratSubZ b0 zs0 ds0 b1 zs1 ds1 = [] ∧ ratSubD b0 zs0 ds0 b1 zs1 ds1 = [] := by
  unfold ratSubB ratSubZ ratSubD; rcases h with h | h <;> rw [h] <;> simp
theorem ratSub_yes {b0 : Bool} {x d : Nat} {b1 : Bool} {y e : Nat} (h0 : ratOk b0 (limI x) (limI d) = true) (h1 : ratOk b1 (limI y) (limI e) = true) :
    ratSubB b0 (limI x) (limI d) b1 (limI y) (limI e) = mkB (sgAddB b0 (x * e) (!b1 && decide (0 < y)) (y * d)) (lowX (sgAddN b0 (x * e) (!b1 && decide (0 < y)) (y * d)) (d * e)) (lowD (sgAddN b0 (x * e) (!b1 && decide (0 < y)) (y * d)) (d * e)) ∧ ratSubZ b0 (limI x) (limI d) b1 (limI y) (limI e) = mkZ (lowX (sgAddN b0 (x * e) (!b1 && decide (0 < y)) (y * d)) (d * e)) (lowD (sgAddN b0 (x * e) (!b1 && decide (0 < y)) (y * d)) (d * e)) ∧ ratSubD b0 (limI x) (limI d) b1 (limI y) (limI e) = mkD (lowX (sgAddN b0 (x * e) (!b1 && decide (0 < y)) (y * d)) (d * e)) (lowD (sgAddN b0 (x * e) (!b1 && decide (0 < y)) (y * d)) (d * e)) := by
  unfold ratSubB ratSubZ ratSubD; rw [h0, h1, natI_limI, natI_limI, natI_limI, natI_limI]; exact ⟨rfl, rfl, rfl⟩


def ratMulB (b0 : Bool) (zs0 ds0 : List Int) (b1 : Bool) (zs1 ds1 : List Int) : Bool := if ratOk b0 zs0 ds0 && ratOk b1 zs1 ds1 then mkB (!(b0 == b1)) (lowX (natI zs0 * natI zs1) (natI ds0 * natI ds1)) (lowD (natI zs0 * natI zs1) (natI ds0 * natI ds1)) else false
def ratMulZ (b0 : Bool) (zs0 ds0 : List Int) (b1 : Bool) (zs1 ds1 : List Int) : List Int := if ratOk b0 zs0 ds0 && ratOk b1 zs1 ds1 then mkZ (lowX (natI zs0 * natI zs1) (natI ds0 * natI ds1)) (lowD (natI zs0 * natI zs1) (natI ds0 * natI ds1)) else []
def ratMulD (b0 : Bool) (zs0 ds0 : List Int) (b1 : Bool) (zs1 ds1 : List Int) : List Int := if ratOk b0 zs0 ds0 && ratOk b1 zs1 ds1 then mkD (lowX (natI zs0 * natI zs1) (natI ds0 * natI ds1)) (lowD (natI zs0 * natI zs1) (natI ds0 * natI ds1)) else []
theorem ratMulZ_len (b0 : Bool) (zs0 ds0 : List Int) (b1 : Bool) (zs1 ds1 : List Int) : (ratMulZ b0 zs0 ds0 b1 zs1 ds1).length ≤ 1000 := by
  unfold ratMulZ; split
  · exact Nat.le_trans (mkZ_len _ _) (by omega)
  · simp
theorem ratMulD_len (b0 : Bool) (zs0 ds0 : List Int) (b1 : Bool) (zs1 ds1 : List Int) : (ratMulD b0 zs0 ds0 b1 zs1 ds1).length ≤ 1000 := by
  unfold ratMulD; split
  · exact Nat.le_trans (mkD_len _ _) (by omega)
  · simp
theorem ratMul_no {b0 : Bool} {zs0 ds0 : List Int} {b1 : Bool} {zs1 ds1 : List Int} (h : ratOk b0 zs0 ds0 = false ∨ ratOk b1 zs1 ds1 = false) : ratMulB b0 zs0 ds0 b1 zs1 ds1 = false ∧ ratMulZ b0 zs0 ds0 b1 zs1 ds1 = [] ∧ ratMulD b0 zs0 ds0 b1 zs1 ds1 = [] := by
  unfold ratMulB ratMulZ ratMulD; rcases h with h | h <;> rw [h] <;> simp
theorem ratMul_yes {b0 : Bool} {x d : Nat} {b1 : Bool} {y e : Nat} (h0 : ratOk b0 (limI x) (limI d) = true) (h1 : ratOk b1 (limI y) (limI e) = true) :
    ratMulB b0 (limI x) (limI d) b1 (limI y) (limI e) = mkB (!(b0 == b1)) (lowX (x * y) (d * e)) (lowD (x * y) (d * e)) ∧ ratMulZ b0 (limI x) (limI d) b1 (limI y) (limI e) = mkZ (lowX (x * y) (d * e)) (lowD (x * y) (d * e)) ∧ ratMulD b0 (limI x) (limI d) b1 (limI y) (limI e) = mkD (lowX (x * y) (d * e)) (lowD (x * y) (d * e)) := by
  unfold ratMulB ratMulZ ratMulD; rw [h0, h1, natI_limI, natI_limI, natI_limI, natI_limI]; exact ⟨rfl, rfl, rfl⟩


def ratDivB (b0 : Bool) (zs0 ds0 : List Int) (b1 : Bool) (zs1 ds1 : List Int) : Bool := if ratOk b0 zs0 ds0 && ratOk b1 zs1 ds1 then mkB (!(b0 == b1)) (lowX (natI zs0 * natI ds1) (natI ds0 * natI zs1)) (lowD (natI zs0 * natI ds1) (natI ds0 * natI zs1)) else false
def ratDivZ (b0 : Bool) (zs0 ds0 : List Int) (b1 : Bool) (zs1 ds1 : List Int) : List Int := if ratOk b0 zs0 ds0 && ratOk b1 zs1 ds1 then mkZ (lowX (natI zs0 * natI ds1) (natI ds0 * natI zs1)) (lowD (natI zs0 * natI ds1) (natI ds0 * natI zs1)) else []
def ratDivD (b0 : Bool) (zs0 ds0 : List Int) (b1 : Bool) (zs1 ds1 : List Int) : List Int := if ratOk b0 zs0 ds0 && ratOk b1 zs1 ds1 then mkD (lowX (natI zs0 * natI ds1) (natI ds0 * natI zs1)) (lowD (natI zs0 * natI ds1) (natI ds0 * natI zs1)) else []
theorem ratDivZ_len (b0 : Bool) (zs0 ds0 : List Int) (b1 : Bool) (zs1 ds1 : List Int) : (ratDivZ b0 zs0 ds0 b1 zs1 ds1).length ≤ 1000 := by
  unfold ratDivZ; split
  · exact Nat.le_trans (mkZ_len _ _) (by omega)
  · simp
theorem ratDivD_len (b0 : Bool) (zs0 ds0 : List Int) (b1 : Bool) (zs1 ds1 : List Int) : (ratDivD b0 zs0 ds0 b1 zs1 ds1).length ≤ 1000 := by
  unfold ratDivD; split
  · exact Nat.le_trans (mkD_len _ _) (by omega)
  · simp
theorem ratDiv_no {b0 : Bool} {zs0 ds0 : List Int} {b1 : Bool} {zs1 ds1 : List Int} (h : ratOk b0 zs0 ds0 = false ∨ ratOk b1 zs1 ds1 = false) : ratDivB b0 zs0 ds0 b1 zs1 ds1 = false ∧ ratDivZ b0 zs0 ds0 b1 zs1 ds1 = [] ∧ ratDivD b0 zs0 ds0 b1 zs1 ds1 = [] := by
  unfold ratDivB ratDivZ ratDivD; rcases h with h | h <;> rw [h] <;> simp
theorem ratDiv_yes {b0 : Bool} {x d : Nat} {b1 : Bool} {y e : Nat} (h0 : ratOk b0 (limI x) (limI d) = true) (h1 : ratOk b1 (limI y) (limI e) = true) :
    ratDivB b0 (limI x) (limI d) b1 (limI y) (limI e) = mkB (!(b0 == b1)) (lowX (x * e) (d * y)) (lowD (x * e) (d * y)) ∧ ratDivZ b0 (limI x) (limI d) b1 (limI y) (limI e) = mkZ (lowX (x * e) (d * y)) (lowD (x * e) (d * y)) ∧ ratDivD b0 (limI x) (limI d) b1 (limI y) (limI e) = mkD (lowX (x * e) (d * y)) (lowD (x * e) (d * y)) := by
  unfold ratDivB ratDivZ ratDivD; rw [h0, h1, natI_limI, natI_limI, natI_limI, natI_limI]; exact ⟨rfl, rfl, rfl⟩


theorem cmpN_swap (x y : Nat) : cmpN y x = - cmpN x y := by unfold cmpN; split <;> split <;> (try split) <;> (try split) <;> omega
theorem sgCmp_swap (b0 : Bool) (x : Nat) (b1 : Bool) (y : Nat) : sgCmp b1 y b0 x = - sgCmp b0 x b1 y := by
  unfold sgCmp; cases b0 <;> cases b1 <;> simp [cmpN_swap x y]
/-- is the second the answer? -/
def secB (lt : Bool) (c : Int) : Bool := if lt then decide (c < 0) else decide (0 < c)


def ratMinB (b0 : Bool) (zs0 ds0 : List Int) (b1 : Bool) (zs1 ds1 : List Int) : Bool := if ratOk b0 zs0 ds0 && ratOk b1 zs1 ds1 then (if secB true (sgCmp b1 (natI zs1 * natI ds0) b0 (natI zs0 * natI ds1)) then b1 else b0) else false
def ratMinZ (b0 : Bool) (zs0 ds0 : List Int) (b1 : Bool) (zs1 ds1 : List Int) : List Int := if ratOk b0 zs0 ds0 && ratOk b1 zs1 ds1 then (if secB true (sgCmp b1 (natI zs1 * natI ds0) b0 (natI zs0 * natI ds1)) then zs1 else zs0) else []
def ratMinD (b0 : Bool) (zs0 ds0 : List Int) (b1 : Bool) (zs1 ds1 : List Int) : List Int := if ratOk b0 zs0 ds0 && ratOk b1 zs1 ds1 then (if secB true (sgCmp b1 (natI zs1 * natI ds0) b0 (natI zs0 * natI ds1)) then ds1 else ds0) else []
theorem ratMin_no {b0 : Bool} {zs0 ds0 : List Int} {b1 : Bool} {zs1 ds1 : List Int} (h : ratOk b0 zs0 ds0 = false ∨ ratOk b1 zs1 ds1 = false) : ratMinB b0 zs0 ds0 b1 zs1 ds1 = false ∧ ratMinZ b0 zs0 ds0 b1 zs1 ds1 = [] ∧ ratMinD b0 zs0 ds0 b1 zs1 ds1 = [] := by
  unfold ratMinB ratMinZ ratMinD; rcases h with h | h <;> rw [h] <;> simp
theorem ratMin_yes {b0 : Bool} {x d : Nat} {b1 : Bool} {y e : Nat} (h0 : ratOk b0 (limI x) (limI d) = true) (h1 : ratOk b1 (limI y) (limI e) = true) :
    ratMinB b0 (limI x) (limI d) b1 (limI y) (limI e) = (if secB true (sgCmp b1 (y * d) b0 (x * e)) then b1 else b0) ∧ ratMinZ b0 (limI x) (limI d) b1 (limI y) (limI e) = (if secB true (sgCmp b1 (y * d) b0 (x * e)) then limI y else limI x) ∧ ratMinD b0 (limI x) (limI d) b1 (limI y) (limI e) = (if secB true (sgCmp b1 (y * d) b0 (x * e)) then limI e else limI d) := by
  unfold ratMinB ratMinZ ratMinD; rw [h0, h1, natI_limI, natI_limI, natI_limI, natI_limI]; exact ⟨rfl, rfl, rfl⟩
theorem ratMinZ_len (b0 : Bool) (zs0 ds0 : List Int) (b1 : Bool) (zs1 ds1 : List Int) : (ratMinZ b0 zs0 ds0 b1 zs1 ds1).length ≤ 1000 := by
  cases h : ratOk b0 zs0 ds0 && ratOk b1 zs1 ds1 with
  | false => unfold ratMinZ; rw [h]; simp
  | true =>
    obtain ⟨h0, h1⟩ := Bool.and_eq_true_iff.1 h
    obtain ⟨x, d, rfl, rfl, hx, hd, _⟩ := ratOk_parts h0
    obtain ⟨y, e, rfl, rfl, hy, he, _⟩ := ratOk_parts h1
    have := (nlen_le_iff _ _).2 hx
    have := (nlen_le_iff _ _).2 hy
    rw [(ratMin_yes h0 h1).2.1]
    split <;> rw [limI_length] <;> omega
theorem ratMinD_len (b0 : Bool) (zs0 ds0 : List Int) (b1 : Bool) (zs1 ds1 : List Int) : (ratMinD b0 zs0 ds0 b1 zs1 ds1).length ≤ 1000 := by
  cases h : ratOk b0 zs0 ds0 && ratOk b1 zs1 ds1 with
  | false => unfold ratMinD; rw [h]; simp
  | true =>
    obtain ⟨h0, h1⟩ := Bool.and_eq_true_iff.1 h
    obtain ⟨x, d, rfl, rfl, hx, hd, _⟩ := ratOk_parts h0
    obtain ⟨y, e, rfl, rfl, hy, he, _⟩ := ratOk_parts h1
    have := (nlen_le_iff _ _).2 hd
    have := (nlen_le_iff _ _).2 he
    rw [(ratMin_yes h0 h1).2.2]
    split <;> rw [limI_length] <;> omega


def ratMaxB (b0 : Bool) (zs0 ds0 : List Int) (b1 : Bool) (zs1 ds1 : List Int) : Bool := if ratOk b0 zs0 ds0 && ratOk b1 zs1 ds1 then (if secB false (sgCmp b1 (natI zs1 * natI ds0) b0 (natI zs0 * natI ds1)) then b1 else b0) else false
def ratMaxZ (b0 : Bool) (zs0 ds0 : List Int) (b1 : Bool) (zs1 ds1 : List Int) : List Int := if ratOk b0 zs0 ds0 && ratOk b1 zs1 ds1 then (if secB false (sgCmp b1 (natI zs1 * natI ds0) b0 (natI zs0 * natI ds1)) then zs1 else zs0) else []
def ratMaxD (b0 : Bool) (zs0 ds0 : List Int) (b1 : Bool) (zs1 ds1 : List Int) : List Int := if ratOk b0 zs0 ds0 && ratOk b1 zs1 ds1 then (if secB false (sgCmp b1 (natI zs1 * natI ds0) b0 (natI zs0 * natI ds1)) then ds1 else ds0) else []
theorem ratMax_no {b0 : Bool} {zs0 ds0 : List Int} {b1 : Bool} {zs1 ds1 : List Int} (h : ratOk b0 zs0 ds0 = false ∨ ratOk b1 zs1 ds1 = false) : ratMaxB b0 zs0 ds0 b1 zs1 ds1 = false ∧ ratMaxZ b0 zs0 ds0 b1 zs1 ds1 = [] ∧ ratMaxD b0 zs0 ds0 b1 zs1 ds1 = [] := by
  unfold ratMaxB ratMaxZ ratMaxD; rcases h with h | h <;> rw [h] <;> simp
theorem ratMax_yes {b0 : Bool} {x d : Nat} {b1 : Bool} {y e : Nat} (h0 : ratOk b0 (limI x) (limI d) = true) (h1 : ratOk b1 (limI y) (limI e) = true) :
    ratMaxB b0 (limI x) (limI d) b1 (limI y) (limI e) = (if secB false (sgCmp b1 (y * d) b0 (x * e)) then b1 else b0) ∧ ratMaxZ b0 (limI x) (limI d) b1 (limI y) (limI e) = (if secB false (sgCmp b1 (y * d) b0 (x * e)) then limI y else limI x) ∧ ratMaxD b0 (limI x) (limI d) b1 (limI y) (limI e) = (if secB false (sgCmp b1 (y * d) b0 (x * e)) then limI e else limI d) := by
  unfold ratMaxB ratMaxZ ratMaxD; rw [h0, h1, natI_limI, natI_limI, natI_limI, natI_limI]; exact ⟨rfl, rfl, rfl⟩
theorem ratMaxZ_len (b0 : Bool) (zs0 ds0 : List Int) (b1 : Bool) (zs1 ds1 : List Int) : (ratMaxZ b0 zs0 ds0 b1 zs1 ds1).length ≤ 1000 := by
  cases h : ratOk b0 zs0 ds0 && ratOk b1 zs1 ds1 with
  | false => unfold ratMaxZ; rw [h]; simp
  | true =>
    obtain ⟨h0, h1⟩ := Bool.and_eq_true_iff.1 h
    obtain ⟨x, d, rfl, rfl, hx, hd, _⟩ := ratOk_parts h0
    obtain ⟨y, e, rfl, rfl, hy, he, _⟩ := ratOk_parts h1
    have := (nlen_le_iff _ _).2 hx
    have := (nlen_le_iff _ _).2 hy
    rw [(ratMax_yes h0 h1).2.1]
    split <;> rw [limI_length] <;> omega
theorem ratMaxD_len (b0 : Bool) (zs0 ds0 : List Int) (b1 : Bool) (zs1 ds1 : List Int) : (ratMaxD b0 zs0 ds0 b1 zs1 ds1).length ≤ 1000 := by
  cases h : ratOk b0 zs0 ds0 && ratOk b1 zs1 ds1 with
  | false => unfold ratMaxD; rw [h]; simp
  | true =>
    obtain ⟨h0, h1⟩ := Bool.and_eq_true_iff.1 h
    obtain ⟨x, d, rfl, rfl, hx, hd, _⟩ := ratOk_parts h0
    obtain ⟨y, e, rfl, rfl, hy, he, _⟩ := ratOk_parts h1
    have := (nlen_le_iff _ _).2 hd
    have := (nlen_le_iff _ _).2 he
    rw [(ratMax_yes h0 h1).2.2]
    split <;> rw [limI_length] <;> omega


end Go.Proofs.Ytojklmckjebplaa
