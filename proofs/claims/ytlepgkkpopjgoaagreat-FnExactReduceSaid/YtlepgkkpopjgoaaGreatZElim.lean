/- Elimination as data: a matrix as a function of row and column; one step, and all steps. -/
import Derived.Test.YtlepgkkpopjgoaaGreatZMatx
import Derived.Test.YtlepgkkpopjgoaaGreatZVecNum
namespace Go.Proofs.YtlepgkkpopjgoaaGreat
open Go.RowKit Go.WideShapes Go.ChangeShapes
set_option linter.unusedVariables false
set_option linter.unusedSimpArgs false

def nilF (f : Fr) : Bool := decide (f.mag.length = 0)
def divX (f g : Fr) : Fr :=
  ⟨mkB (!(f.neg == g.neg)) (lowX (natI f.mag * natI g.den) (natI f.den * natI g.mag)) (lowD (natI f.mag * natI g.den) (natI f.den * natI g.mag)),
   mkZ (lowX (natI f.mag * natI g.den) (natI f.den * natI g.mag)) (lowD (natI f.mag * natI g.den) (natI f.den * natI g.mag)),
   mkD (lowX (natI f.mag * natI g.den) (natI f.den * natI g.mag)) (lowD (natI f.mag * natI g.den) (natI f.den * natI g.mag))⟩
theorem nil_mag {f : Fr} (hf : okF f = true) (h : nilF f = false) : 0 < natI f.mag := by
  obtain ⟨b, x, d, rfl, hx, hd, h0, hg, hb⟩ := okF_parts hf
  show 0 < natI (limI x)
  rw [natI_limI]
  rcases Nat.eq_zero_or_pos x with h1 | h1
  · subst h1; rw [limI_zero] at h; have h9 : nilF ⟨b, [], limI d⟩ = true := rfl; rw [h9] at h; cases h
  · exact h1
theorem ok_div {f g : Fr} (hf : okF f = true) (hg : okF g = true) (h : nilF g = false) : divX f g = Fr.zero ∨ okF (divX f g) = true := ok_mk (Nat.mul_pos (den_pos hf) (nil_mag hg h))
/-- the inverse of a fraction that is not 0, as the program lays it -/
def invX (f : Fr) : Fr := ⟨f.neg, f.den, f.mag⟩
theorem ok_inv {f : Fr} (hf : okF f = true) (h : nilF f = false) : okF (invX f) = true := by
  have hm := nil_mag hf h
  obtain ⟨b, x, d, rfl, hx, hd, h0, hg, hb⟩ := okF_parts hf
  have h1 : natI (limI x) = x := natI_limI x
  have hm' : 0 < x := by rw [← h1]; exact hm
  show ratOk b (limI d) (limI x) = true
  rw [ratOk_make hd hx hm' (fun _ => h0)]
  exact decide_eq_true (by rw [Nat.gcd_comm]; exact hg)
theorem mul_inv (f g : Fr) : mulX f (invX g) = divX f g := rfl
/-- valid, or the zero value: what an operation answers -/
def goodF (f : Fr) : Prop := f = Fr.zero ∨ okF f = true
theorem gd_small {f : Fr} (h : goodF f) : Small f := by
  rcases h with rfl | h
  · exact small_zero
  · exact small_ok h
theorem ok_bad {f : Fr} (h : goodF f) : okF f = !badF f := by
  rcases h with rfl | h
  · rfl
  · rw [h, bad_ok h]; rfl
/-! matrices as functions -/
def tabM (R C : Nat) (g : Nat → Nat → Fr) : List Fr := (List.range (R * C)).map (fun p => g (p / C) (p % C))
theorem tabM_len (R C : Nat) (g : Nat → Nat → Fr) : (tabM R C g).length = R * C := by simp [tabM]
theorem div_at {i k C : Nat} (hk : k < C) : (i * C + k) / C = i := by
  rw [Nat.mul_comm, Nat.mul_add_div (by omega), Nat.div_eq_of_lt hk]; rfl
theorem mod_at {i k C : Nat} (hk : k < C) : (i * C + k) % C = k := by
  rw [Nat.mul_comm, Nat.mul_add_mod, Nat.mod_eq_of_lt hk]
theorem at_lt {i k R C : Nat} (hi : i < R) (hk : k < C) : i * C + k < R * C := by
  have := row_in (C := C) hi; omega
theorem tabM_get {R C i k : Nat} {g : Nat → Nat → Fr} (hk : k < C) (h : i * C + k < (tabM R C g).length) : (tabM R C g)[i * C + k]'h = g i k := by
  simp [tabM, div_at hk, mod_at hk]
theorem tabM_congr {R C : Nat} {g g' : Nat → Nat → Fr} (h : ∀ a b, a < R → b < C → g a b = g' a b) : tabM R C g = tabM R C g' := by
  unfold tabM
  apply List.map_congr_left
  intro p hp
  have hlt := List.mem_range.1 hp
  have hC : 0 < C := by
    rcases Nat.eq_zero_or_pos C with h0 | h0
    · subst h0; omega
    · exact h0
  exact h _ _ (by rw [Nat.div_lt_iff_lt_mul hC]; exact hlt) (Nat.mod_lt _ hC)
theorem tabM_set {R C i k : Nat} {g : Nat → Nat → Fr} (x : Fr) (hk : k < C) : (tabM R C g).set (i * C + k) x = tabM R C (fun a b => if a = i ∧ b = k then x else g a b) := by
  apply List.ext_getElem (by simp [tabM])
  intro p h1 h2
  rw [List.getElem_set]
  simp only [tabM, List.getElem_map, List.getElem_range]
  by_cases e : i * C + k = p
  · subst e
    rw [if_pos rfl, div_at hk, mod_at hk, if_pos ⟨rfl, rfl⟩]
  · rw [if_neg e, if_neg]
    rintro ⟨e1, e2⟩
    have := Nat.div_add_mod' p C
    rw [e1, e2] at this
    exact e this
theorem tabM_self {R C : Nat} {L : List Fr} (h : L.length = R * C) : tabM R C (elM L C) = L := by
  apply List.ext_getElem (by rw [tabM_len, h])
  intro p h1 h2
  simp only [tabM, List.getElem_map, List.getElem_range, elM]
  rw [Nat.div_add_mod', List.getElem?_eq_getElem h2, Option.getD_some]
theorem tabM_all {R C : Nat} {g : Nat → Nat → Fr} {P : Fr → Bool} : (tabM R C g).all P = true ↔ ∀ a b, a < R → b < C → P (g a b) = true := by
  rw [List.all_eq_true]
  constructor
  · intro h a b ha hb
    have h1 : a * C + b < (tabM R C g).length := by rw [tabM_len]; exact at_lt ha hb
    have := h _ (List.getElem_mem h1)
    rwa [tabM_get hb] at this
  · intro h f hf
    simp only [tabM, List.mem_map, List.mem_range] at hf
    obtain ⟨p, hp, rfl⟩ := hf
    have hC : 0 < C := by
      rcases Nat.eq_zero_or_pos C with h0 | h0
      · subst h0; omega
      · exact h0
    exact h _ _ (by rw [Nat.div_lt_iff_lt_mul hC]; exact hp) (Nat.mod_lt _ hC)

/-! one step -/
abbrev Mx := Nat → Nat → Fr
def exG (g : Mx) (i n : Nat) : Mx := fun a b => if a = i then g n b else if a = n then g i b else g a b
def exP (g : Mx) (i n j : Nat) : Mx := fun a b => if b < j then exG g i n a b else g a b
def dvG (g : Mx) (n k : Nat) : Mx := fun a b => if a = n ∧ k ≤ b then divX (g n b) (g n k) else g a b
def dvP (g : Mx) (n k j : Nat) : Mx := fun a b => if a = n ∧ k ≤ b ∧ b < j then divX (g n b) (g n k) else g a b
def clE (g : Mx) (n k a b : Nat) : Fr := if nilF (g a k) || nilF (g n b) then g a b else subX (g a b) (mulX (g a k) (g n b))
def clP (g : Mx) (n k i j : Nat) : Mx := fun a b => if a ≠ n ∧ k ≤ b ∧ (a < i ∨ (a = i ∧ b < j)) then clE g n k a b else g a b
def clG (g : Mx) (n k : Nat) : Mx := fun a b => if a ≠ n ∧ k ≤ b then clE g n k a b else g a b
theorem exP_zero (g : Mx) (i n : Nat) : exP g i n 0 = g := by funext a b; simp [exP]
theorem exG_self (g : Mx) (n : Nat) : exG g n n = g := by
  funext a b
  unfold exG
  split
  · next h => rw [h]
  · rfl
theorem exP_end {R C : Nat} (g : Mx) (i n : Nat) : tabM R C (exP g i n C) = tabM R C (exG g i n) := tabM_congr (fun a b _ hb => by simp [exP, hb])
theorem exP_step {R C : Nat} {g : Mx} {i n j : Nat} (hi : i < R) (hn : n < R) (hj : j < C) :
    ((tabM R C (exP g i n j)).set (i * C + j) (g n j)).set (n * C + j) (g i j) = tabM R C (exP g i n (j + 1)) := by
  rw [tabM_set _ hj, tabM_set _ hj]
  apply tabM_congr
  intro a b _ _
  unfold exP exG
  by_cases h1 : b < j
  · rw [if_neg (by omega), if_neg (by omega), if_pos h1, if_pos (show b < j + 1 by omega)]
  · by_cases h2 : b = j
    · subst h2
      simp only [Nat.lt_irrefl, if_false, and_true, Nat.lt_succ_self, if_true]
      by_cases h3 : a = i
      · by_cases h4 : a = n
        · rw [if_pos h4, if_pos h3, ← h4, ← h3]
        · rw [if_neg h4, if_pos h3, if_pos h3]
      · by_cases h4 : a = n
        · rw [if_pos h4, if_neg h3, if_pos h4]
        · rw [if_neg h4, if_neg h3, if_neg h3, if_neg h4]
    · rw [if_neg (by omega), if_neg (by omega), if_neg h1, if_neg (by omega)]
theorem dvP_zero (g : Mx) (n k : Nat) : dvP g n k k = g := by
  funext a b
  unfold dvP
  rw [if_neg (by omega)]
theorem dvP_end {R C : Nat} (g : Mx) (n k : Nat) : tabM R C (dvP g n k C) = tabM R C (dvG g n k) := tabM_congr (fun a b _ hb => by simp [dvP, dvG, hb])
theorem dvP_step {R C : Nat} {g : Mx} {n k j : Nat} (hk : k ≤ j) (hj : j < C) : (tabM R C (dvP g n k j)).set (n * C + j) (divX (g n j) (g n k)) = tabM R C (dvP g n k (j + 1)) := by
  rw [tabM_set _ hj]
  apply tabM_congr
  intro a b _ _
  unfold dvP
  by_cases h1 : a = n
  · subst h1
    by_cases h2 : b = j
    · subst h2
      rw [if_pos ⟨rfl, rfl⟩, if_pos ⟨rfl, hk, by omega⟩]
    · rw [if_neg (by omega)]
      by_cases h3 : k ≤ b ∧ b < j
      · rw [if_pos ⟨rfl, h3⟩, if_pos ⟨rfl, h3.1, by omega⟩]
      · rw [if_neg (by omega), if_neg (by omega)]
  · rw [if_neg (by omega), if_neg (by omega), if_neg (by omega)]
theorem dvP_at {g : Mx} {n k j : Nat} : dvP g n k j n j = g n j := by unfold dvP; rw [if_neg (by omega)]
theorem clP_zero (g : Mx) (n k j : Nat) (hj : j ≤ k) : clP g n k 0 j = g := by
  funext a b
  unfold clP
  rw [if_neg (by omega)]
theorem clP_row {g : Mx} {n k i j : Nat} (b : Nat) : clP g n k i j n b = g n b := by unfold clP; rw [if_neg (by omega)]
theorem clP_at {g : Mx} {n k i j : Nat} : clP g n k i j i j = g i j := by unfold clP; rw [if_neg (by omega)]
theorem clP_start {g : Mx} {n k i : Nat} (b : Nat) : clP g n k i k i b = g i b := by unfold clP; rw [if_neg (by omega)]
theorem clP_skip {R C : Nat} {g : Mx} {n k i : Nat} (h : i = n ∨ nilF (g i k) = true) : tabM R C (clP g n k i k) = tabM R C (clP g n k (i + 1) k) := by
  apply tabM_congr
  intro a b _ _
  unfold clP
  by_cases h1 : a ≠ n ∧ k ≤ b ∧ (a < i ∨ (a = i ∧ b < k))
  · rw [if_pos h1, if_pos ⟨h1.1, h1.2.1, by omega⟩]
  · rw [if_neg h1]
    split
    · next h2 =>
      have h3 : a = i := by omega
      subst h3
      rcases h with h | h
      · omega
      · unfold clE; rw [h]; simp
    · rfl
theorem clP_next {R C : Nat} {g : Mx} {n k i : Nat} : tabM R C (clP g n k i C) = tabM R C (clP g n k (i + 1) k) := by
  apply tabM_congr
  intro a b _ _
  unfold clP
  by_cases h1 : a ≠ n ∧ k ≤ b ∧ (a < i ∨ (a = i ∧ b < C))
  · rw [if_pos h1, if_pos ⟨h1.1, h1.2.1, by omega⟩]
  · rw [if_neg h1, if_neg (by omega)]
theorem clP_nil {R C : Nat} {g : Mx} {n k i j : Nat} (h : nilF (g n j) = true) : tabM R C (clP g n k i j) = tabM R C (clP g n k i (j + 1)) := by
  apply tabM_congr
  intro a b _ _
  unfold clP
  by_cases h1 : a ≠ n ∧ k ≤ b ∧ (a < i ∨ (a = i ∧ b < j))
  · rw [if_pos h1, if_pos ⟨h1.1, h1.2.1, by omega⟩]
  · rw [if_neg h1]
    split
    · next h2 =>
      have h3 : b = j := by omega
      subst h3
      unfold clE; rw [h]; simp
    · rfl
theorem clP_set {R C : Nat} {g : Mx} {n k i j : Nat} (hin : i ≠ n) (hk : k ≤ j) (hj : j < C) (h1 : nilF (g i k) = false) (h2 : nilF (g n j) = false) :
    (tabM R C (clP g n k i j)).set (i * C + j) (subX (g i j) (mulX (g i k) (g n j))) = tabM R C (clP g n k i (j + 1)) := by
  rw [tabM_set _ hj]
  apply tabM_congr
  intro a b _ _
  unfold clP
  by_cases h3 : a = i ∧ b = j
  · obtain ⟨rfl, rfl⟩ := h3
    rw [if_pos ⟨rfl, rfl⟩, if_pos ⟨hin, hk, by omega⟩]
    unfold clE; rw [h1, h2]; simp
  · rw [if_neg h3]
    by_cases h4 : a ≠ n ∧ k ≤ b ∧ (a < i ∨ (a = i ∧ b < j))
    · rw [if_pos h4, if_pos ⟨h4.1, h4.2.1, by omega⟩]
    · rw [if_neg h4, if_neg (by omega)]
theorem clP_end {R C : Nat} (g : Mx) (n k j : Nat) : tabM R C (clP g n k R j) = tabM R C (clG g n k) := tabM_congr (fun a b ha _ => by
  unfold clP clG
  by_cases h : a ≠ n ∧ k ≤ b
  · rw [if_pos ⟨h.1, h.2, .inl ha⟩, if_pos h]
  · rw [if_neg (fun h' => h ⟨h'.1, h'.2.1⟩), if_neg h])

/-! what is in the matrix stays good -/
def GoodM (R C : Nat) (g : Mx) : Prop := ∀ a b, a < R → b < C → goodF (g a b)
def OkM (R C : Nat) (g : Mx) : Prop := ∀ a b, a < R → b < C → okF (g a b) = true
theorem OkM.good {R C : Nat} {g : Mx} (h : OkM R C g) : GoodM R C g := fun a b ha hb => .inr (h a b ha hb)
theorem OkM.ex {R C : Nat} {g : Mx} (h : OkM R C g) {i n : Nat} (hi : i < R) (hn : n < R) : OkM R C (exG g i n) := fun a b ha hb => by
  unfold exG
  split
  · exact h n b hn hb
  · split
    · exact h i b hi hb
    · exact h a b ha hb
theorem OkM.dv {R C : Nat} {g : Mx} (h : OkM R C g) {n k : Nat} (hn : n < R) (hk : k < C) (hp : nilF (g n k) = false) : GoodM R C (dvG g n k) := fun a b ha hb => by
  unfold dvG
  split
  · exact ok_div (h n b hn hb) (h n k hn hk) hp
  · exact .inr (h a b ha hb)
theorem good_subX {f g : Fr} (hf : goodF f) (hg : goodF g) : goodF (subX f g) := by
  rcases hf with rfl | hf
  · exact .inl (add_zeroL _)
  · rcases hg with rfl | hg
    · exact .inl (add_zeroR _)
    · exact ok_sub hf hg
theorem mul_zeroL (g : Fr) : mulX Fr.zero g = Fr.zero := mk_zeroD _ _ _ (by show natI [] * _ = 0; rw [natI_nil, Nat.zero_mul])
theorem mul_zeroR (f : Fr) : mulX f Fr.zero = Fr.zero := mk_zeroD _ _ _ (by show _ * natI [] = 0; rw [natI_nil, Nat.mul_zero])
theorem good_mulX {f g : Fr} (hf : goodF f) (hg : goodF g) : goodF (mulX f g) := by
  rcases hf with rfl | hf
  · exact .inl (mul_zeroL _)
  · rcases hg with rfl | hg
    · exact .inl (mul_zeroR _)
    · exact ok_mul hf hg
theorem good_clE {R C : Nat} {g : Mx} (h : GoodM R C g) {n k a b : Nat} (hn : n < R) (hk : k < C) (ha : a < R) (hb : b < C) : goodF (clE g n k a b) := by
  unfold clE
  split
  · exact h a b ha hb
  · exact good_subX (h a b ha hb) (good_mulX (h a k ha hk) (h n b hn hb))
theorem GoodM.cl {R C : Nat} {g : Mx} (h : GoodM R C g) {n k : Nat} (hn : n < R) (hk : k < C) : GoodM R C (clG g n k) := fun a b ha hb => by
  unfold clG
  split
  · exact good_clE h hn hk ha hb
  · exact h a b ha hb
def fineG (R C : Nat) (g : Mx) : Bool := fineV (tabM R C g)
theorem fineG_iff {R C : Nat} {g : Mx} (h : GoodM R C g) : fineG R C g = true ↔ OkM R C g := by
  unfold fineG fineV
  rw [tabM_all]
  constructor
  · intro h1 a b ha hb
    rw [ok_bad (h a b ha hb)]; exact h1 a b ha hb
  · intro h1 a b ha hb
    rw [← ok_bad (h a b ha hb)]; exact h1 a b ha hb

/-! all steps -/
structure El where
  g : Mx
  piv : List Nat
  fac : List Fr
def m1F : Fr := ⟨true, [1], [1]⟩
/-- the first row from i on that is not 0 in column k, of d rows; past them where there is none -/
def firstR (g : Mx) (k : Nat) : Nat → Nat → Nat
  | 0, i => i
  | d + 1, i => if nilF (g i k) then firstR g k d (i + 1) else i
theorem firstR_le (g : Mx) (k : Nat) : ∀ d i, i ≤ firstR g k d i ∧ firstR g k d i ≤ i + d
  | 0, i => ⟨Nat.le_refl _, Nat.le_refl _⟩
  | d + 1, i => by
    unfold firstR
    split
    · have := firstR_le g k d (i + 1); omega
    · omega
theorem firstR_not (g : Mx) (k : Nat) : ∀ d i, firstR g k d i < i + d → nilF (g (firstR g k d i) k) = false
  | 0, i, h => by unfold firstR at h; omega
  | d + 1, i, h => by
    unfold firstR at h ⊢
    split
    · next h1 =>
      rw [if_pos h1] at h
      exact firstR_not g k d (i + 1) (by omega)
    · next h1 => simpa using h1
theorem firstR_nil (g : Mx) (k : Nat) : ∀ d i a, i ≤ a → a < firstR g k d i → nilF (g a k) = true
  | 0, i, a, h1, h2 => by unfold firstR at h2; omega
  | d + 1, i, a, h1, h2 => by
    unfold firstR at h2
    split at h2
    · next h3 =>
      by_cases h4 : a = i
      · rw [h4]; exact h3
      · exact firstR_nil g k d (i + 1) a (by omega) h2
    · omega
/-- found by a search that has seen rows n to i -/
theorem firstR_of {g : Mx} {k R n i : Nat} (h1 : n ≤ i) (h2 : i ≤ R) (h3 : ∀ a, n ≤ a → a < i → nilF (g a k) = true) (h4 : i < R → nilF (g i k) = false) : firstR g k (R - n) n = i := by
  have a1 := firstR_le g k (R - n) n
  rcases Nat.lt_trichotomy (firstR g k (R - n) n) i with h | h | h
  · have := firstR_not g k (R - n) n (by omega)
    rw [h3 _ a1.1 h] at this; cases this
  · exact h
  · have := firstR_nil g k (R - n) n i h1 h
    rw [h4 (by omega)] at this; cases this
def useE (e : El) (i k : Nat) : El :=
  ⟨clG (dvG (exG e.g i e.piv.length) e.piv.length k) e.piv.length k, e.piv ++ [k], e.fac ++ (if i = e.piv.length then [] else [m1F]) ++ [e.g i k]⟩
theorem ex_at (g : Mx) (i n k : Nat) : exG g i n n k = g i k := by
  unfold exG
  split
  · next h => rw [h]
  · rw [if_pos rfl]
def stepE (R : Nat) (e : El) (k : Nat) : El :=
  if e.piv.length < R then
    if firstR e.g k (R - e.piv.length) e.piv.length = R then e
    else useE e (firstR e.g k (R - e.piv.length) e.piv.length) k
  else e
def runE (R C : Nat) : Nat → El → El
  | 0, e => e
  | d + 1, e => if fineG R C (stepE R e (C - (d + 1))).g then runE R C d (stepE R e (C - (d + 1))) else stepE R e (C - (d + 1))
theorem stepE_full {R : Nat} {e : El} (h : ¬ e.piv.length < R) (k : Nat) : stepE R e k = e := by unfold stepE; rw [if_neg h]
theorem runE_full {R C : Nat} {e : El} (h : ¬ e.piv.length < R) (hf : fineG R C e.g = true) : ∀ d, runE R C d e = e
  | 0 => rfl
  | d + 1 => by unfold runE; rw [stepE_full h, if_pos hf]; exact runE_full h hf d
theorem useE_good {R C : Nat} {e : El} {i k : Nat} (h : OkM R C e.g) (hi : i < R) (hn : e.piv.length < R) (hk : k < C) (hp : nilF (e.g i k) = false) : GoodM R C (useE e i k).g :=
  ((h.ex hi hn).dv hn hk (by rw [ex_at]; exact hp)).cl hn hk
theorem stepE_good {R C : Nat} {e : El} {k : Nat} (h : OkM R C e.g) (hk : k < C) : GoodM R C (stepE R e k).g := by
  unfold stepE
  split
  · next hn =>
    split
    · exact h.good
    · next hi =>
      have h1 := firstR_le e.g k (R - e.piv.length) e.piv.length
      exact useE_good h (by omega) hn hk (firstR_not _ _ _ _ (by omega))
  · exact h.good
/-- what holds of the state along all steps -/
structure ElOk (R C : Nat) (e : El) (k : Nat) : Prop where
  ok : OkM R C e.g
  len : e.piv.length ≤ R
  fac : ∀ f ∈ e.fac, okF f = true
  lt : ∀ p ∈ e.piv, p < k
  few : e.piv.length ≤ k
  count : e.fac.length ≤ 2 * k
theorem ok_m1 : okF m1F = true := by
  have h := ok_neg (f := ⟨false, [1], [1]⟩) (by
    show ratOk false [1] [1] = true
    rw [← limI_1, ratOk_make (Nat.lt_of_lt_of_le (by decide : 1 < pw 1) (pw_mono (by omega))) (Nat.lt_of_lt_of_le (by decide : 1 < pw 1) (pw_mono (by omega))) (by omega) (by intro h; cases h)]
    exact decide_eq_true (by simp))
  have e : negX ⟨false, [1], [1]⟩ = m1F := by
    unfold negX m1F
    simp only [natI_one]
    rfl
  rw [e] at h; exact h
theorem ElOk.same {R C : Nat} {e : El} {k : Nat} (h : ElOk R C e k) : ElOk R C e (k + 1) := ⟨h.ok, h.len, h.fac, fun p hp => Nat.lt_succ_of_lt (h.lt p hp), Nat.le_succ_of_le h.few, by have := h.count; omega⟩
theorem ElOk.use {R C : Nat} {e : El} {i k : Nat} (h : ElOk R C e k) (hi : i < R) (hn : e.piv.length < R) (hk : k < C) (hp : nilF (e.g i k) = false) (hf : fineG R C (useE e i k).g = true) : ElOk R C (useE e i k) (k + 1) := by
  refine ⟨(fineG_iff (useE_good h.ok hi hn hk hp)).1 hf, by simp [useE]; omega, ?_, ?_, by simp [useE]; exact h.few, ?_⟩
  · intro f hf
    simp only [useE, List.mem_append, List.mem_singleton] at hf
    rcases hf with (hf | hf) | rfl
    · exact h.fac f hf
    · split at hf
      · simp at hf
      · rw [List.mem_singleton.1 hf]; exact ok_m1
    · exact h.ok i k hi hk
  · intro p hp
    simp only [useE, List.mem_append, List.mem_singleton] at hp
    rcases hp with hp | rfl
    · exact Nat.lt_succ_of_lt (h.lt p hp)
    · exact Nat.lt_succ_self _
  · have := h.count
    simp only [useE, List.length_append]
    split <;> simp <;> omega
theorem ElOk.step {R C : Nat} {e : El} {k : Nat} (h : ElOk R C e k) (hk : k < C) (hf : fineG R C (stepE R e k).g = true) : ElOk R C (stepE R e k) (k + 1) := by
  unfold stepE at hf ⊢
  split
  · next hn =>
    rw [if_pos hn] at hf
    split
    · exact h.same
    · next hi =>
      rw [if_neg hi] at hf
      have h1 := firstR_le e.g k (R - e.piv.length) e.piv.length
      exact h.use (by omega) hn hk (firstR_not _ _ _ _ (by omega)) hf
  · exact h.same
theorem runE_ok {R C : Nat} : ∀ d e, d ≤ C → ElOk R C e (C - d) → GoodM R C (runE R C d e).g ∧ (fineG R C (runE R C d e).g = true → ElOk R C (runE R C d e) C)
  | 0, e, _, h => ⟨h.ok.good, fun _ => h⟩
  | d + 1, e, hd, h => by
    unfold runE
    have hk : C - (d + 1) < C := by omega
    split
    · next hf =>
      have := h.step hk hf
      rw [show C - (d + 1) + 1 = C - d by omega] at this
      exact runE_ok d _ (by omega) this
    · next hf => exact ⟨stepE_good h.ok hk, fun h => absurd h hf⟩
def startE (L : List Fr) (C : Nat) : El := ⟨elM L C, [], []⟩
theorem start_ok {R C : Nat} {L : List Fr} (hL : L.length = R * C) (h : L.all okF = true) : ElOk R C (startE L C) 0 :=
  ⟨fun a b ha hb => by
    show okF (elM L C a b) = true
    rw [el_at (by rw [hL]; exact at_lt ha hb)]
    exact List.all_eq_true.1 h _ (List.getElem_mem _), Nat.zero_le _, fun f hf => by simp [startE] at hf, fun p hp => by simp [startE] at hp, Nat.le_refl _, Nat.le_refl _⟩
end Go.Proofs.YtlepgkkpopjgoaaGreat
