/- One step of the program's elimination as data: parts of rows, and what clearFirst makes of them. -/
import Derived.Test.YtlepgkkpopjgoaaGreatZElMul
namespace Go.Proofs.YtlepgkkpopjgoaaGreat
open Go.RowKit Go.WideShapes Go.ChangeShapes
set_option linter.unusedVariables false
set_option linter.unusedSimpArgs false
theorem part_in {R C a k : Nat} (ha : a < R) (hk : k < C) : a * C + k + (C - k) ≤ R * C := by have := row_in (C := C) ha; omega
theorem part_tab {R C a k : Nat} {g : Mx} (ha : a < R) (hk : k < C) : partL (tabM R C g) (a * C + k) (C - k) = (List.range (C - k)).map (fun j => g a (k + j)) := by
  have hin := part_in ha hk
  apply List.ext_getElem
  · rw [partL_len (by rw [tabM_len]; exact hin)]; simp
  · intro j h1 h2
    have hj : j < C - k := by simpa using h2
    rw [partL_get (by rw [tabM_len]; exact hin)]
    simp only [List.getElem_map, List.getElem_range]
    have h3 : a * C + (k + j) < (tabM R C g).length := by rw [tabM_len]; exact at_lt ha (by omega)
    have := tabM_get (g := g) (R := R) (i := a) (k := k + j) (by omega : k + j < C) h3
    rw [← this]
    congr 1; omega
theorem part_len {R C a k : Nat} {g : Mx} (ha : a < R) (hk : k < C) : (partL (tabM R C g) (a * C + k) (C - k)).length = C - k := by rw [part_tab ha hk]; simp
theorem spl_tab {R C a k : Nat} {g : Mx} {M : List Fr} (ha : a < R) (hk : k < C) (hM : M.length = C - k) {g' : Mx} (h1 : ∀ j (hj : j < M.length), M[j]'hj = g' a (k + j)) (h2 : ∀ r b, r < R → b < C → ¬ (r = a ∧ k ≤ b) → g r b = g' r b) :
    spl (tabM R C g) (a * C + k) M = tabM R C g' := by
  have hin := part_in ha hk
  have hl : a * C + k + M.length ≤ (tabM R C g).length := by rw [tabM_len, hM]; exact hin
  apply List.ext_getElem (by rw [spl_len hl, tabM_len, tabM_len])
  intro p hp1 hp2
  have hp : p < R * C := by rw [tabM_len] at hp2; exact hp2
  have hC : 0 < C := by omega
  have hr : p / C < R := by rw [Nat.div_lt_iff_lt_mul hC]; exact hp
  have hb : p % C < C := Nat.mod_lt _ hC
  have hd := Nat.div_add_mod' p C
  have e2 : (tabM R C g')[p]'hp2 = g' (p / C) (p % C) := by simp [tabM]
  have e1 : (tabM R C g)[p]'(by rw [tabM_len]; exact hp) = g (p / C) (p % C) := by simp [tabM]
  rw [spl_get hl, e2]
  split
  · next h3 =>
    have hpa : p / C = a := by
      have h4 := row_in (C := C) ha
      have h5 : a * C ≤ p := by omega
      have h6 : p < (a + 1) * C := by rw [Nat.add_mul, Nat.one_mul]; omega
      have h7 := (Nat.le_div_iff_mul_le hC).2 h5
      have h8 := (Nat.div_lt_iff_lt_mul hC).2 h6
      omega
    rw [h1 _ (by omega), hpa]
    rw [hpa] at hd
    congr 1; omega
  · next h3 =>
    rw [e1]
    refine h2 _ _ hr hb ?_
    rintro ⟨h4, h5⟩
    rw [h4] at hd
    apply h3
    rw [hM]
    omega
theorem fine_iff {L : List Fr} : fineV L = true ↔ ∀ k (hk : k < L.length), badF (L[k]'hk) = false := by
  unfold fineV
  rw [List.all_eq_true]
  constructor
  · intro h k hk
    have := h _ (List.getElem_mem hk)
    simpa using this
  · intro h f hf
    obtain ⟨k, hk, rfl⟩ := List.getElem_of_mem hf
    rw [h k hk]; rfl
/-- the used row divided by its pivot -/
theorem quot_fine {R C n k : Nat} {g : Mx} (hok : OkM R C g) (hn : n < R) (hk : k < C) (hp : nilF (g n k) = false) :
    fineV (mulsL (invX (g n k)) (partL (tabM R C g) (n * C + k) (C - k))) = true ↔ ∀ b, k ≤ b → b < C → okF (dvG g n k n b) = true := by
  rw [fine_iff, part_tab hn hk]
  have hl : (mulsL (invX (g n k)) ((List.range (C - k)).map (fun j => g n (k + j)))).length = C - k := by simp [mulsL]
  have he : ∀ j (hj : j < (mulsL (invX (g n k)) ((List.range (C - k)).map (fun j => g n (k + j)))).length), (mulsL (invX (g n k)) ((List.range (C - k)).map (fun j => g n (k + j))))[j]'hj = dvG g n k n (k + j) := by
    intro j hj
    simp only [mulsL, List.getElem_map, List.getElem_range, mul_inv]
    unfold dvG
    rw [if_pos ⟨rfl, by omega⟩]
  have hgd : ∀ b, k ≤ b → b < C → goodF (dvG g n k n b) := fun b h1 h2 => by
    unfold dvG
    rw [if_pos ⟨rfl, h1⟩]
    exact ok_div (hok n b hn h2) (hok n k hn hk) hp
  constructor
  · intro h b h1 h2
    have h3 := h (b - k) (by rw [hl]; omega)
    rw [he, show k + (b - k) = b by omega] at h3
    rw [ok_bad (hgd b h1 h2), h3]; rfl
  · intro h j hj
    rw [he]
    have hj' : j < C - k := by rw [hl] at hj; exact hj
    have h3 := h (k + j) (by omega) (by omega)
    rw [ok_bad (hgd _ (by omega) (by omega))] at h3
    simpa using h3
theorem quot_spl {R C n k : Nat} {g : Mx} (hn : n < R) (hk : k < C) : spl (tabM R C g) (n * C + k) (mulsL (invX (g n k)) (partL (tabM R C g) (n * C + k) (C - k))) = tabM R C (dvG g n k) := by
  rw [part_tab hn hk]
  refine spl_tab hn hk (by simp [mulsL]) (fun j hj => ?_) (fun r b _ _ h => ?_)
  · simp only [mulsL, List.getElem_map, List.getElem_range, mul_inv]
    unfold dvG
    rw [if_pos ⟨rfl, by omega⟩]
  · unfold dvG
    rw [if_neg h]
theorem mulX_comm2 (f g : Fr) : mulX f g = mulX g f := by
  unfold mulX
  rw [Nat.mul_comm (natI f.mag), Nat.mul_comm (natI f.den), show (f.neg == g.neg) = (g.neg == f.neg) by cases f.neg <;> cases g.neg <;> rfl]
theorem subX_zF {f : Fr} (h : okF f = true) : subX f zF = f := by
  have e : negX zF = zF := by unfold negX zF; simp [natI_nil]
  unfold subX
  rw [e]
  exact add_zF (.inr h)
/-- an element of a row that is cleared, as the program reckons it -/
theorem cl_sub {f x y : Fr} (hf : okF f = true) (hx : okF x = true) (hy : okF y = true) (h : nilF f = false) : subX x (mulX y f) = (if nilF f || nilF y then x else subX x (mulX f y)) := by
  cases q : nilF y with
  | true =>
    rw [h, mul_nil hy hf (.inl (of_decide_eq_true q)), subX_zF hx]; rfl
  | false =>
    rw [h, mulX_comm2 y f]; rfl
theorem bad_sub {x y : Fr} (h : badF y = true) (hy : goodF y) : subX x y = Fr.zero := by
  rw [bad_of hy h]
  unfold subX
  have e : negX Fr.zero = Fr.zero := by unfold negX Fr.zero; simp [natI_nil]
  rw [e]; exact add_zeroR x
/-- clearFirst of row a, with the used row n: whether it goes well, and what it leaves -/
theorem clr_row {R C n k a : Nat} {g : Mx} (hok : OkM R C g) (hn : n < R) (hk : k < C) (ha : a < R) (han : a ≠ n) {gp : Mx} (h1 : ∀ b, gp a b = g a b) (h2 : ∀ b, gp n b = g n b) :
    (clrB (partL (tabM R C gp) (a * C + k) (C - k)) (partL (tabM R C gp) (n * C + k) (C - k)) = true ↔ ∀ b, k ≤ b → b < C → okF (clE g n k a b) = true) ∧
    clrR (partL (tabM R C gp) (a * C + k) (C - k)) (partL (tabM R C gp) (n * C + k) (C - k)) = (List.range (C - k)).map (fun j => clE g n k a (k + j)) := by
  rw [part_tab ha hk, part_tab hn hk]
  have ex : ((List.range (C - k)).map (fun j => gp a (k + j)))[0]?.getD Fr.zero = g a k := by
    rw [List.getElem?_eq_getElem (by simp; omega)]
    simp [h1]
  have e1 : (List.range (C - k)).map (fun j => gp a (k + j)) = (List.range (C - k)).map (fun j => g a (k + j)) := by simp [h1]
  have e2 : (List.range (C - k)).map (fun j => gp n (k + j)) = (List.range (C - k)).map (fun j => g n (k + j)) := by simp [h2]
  unfold clrB clrR clrL
  rw [ex, e1, e2]
  have hf := hok a k ha hk
  cases q : nilF (g a k) with
  | true =>
    constructor
    · simp only [Bool.true_or, true_iff]
      intro b hb1 hb2
      unfold clE
      rw [q]; simp only [Bool.true_or, if_true]
      exact hok a b ha hb2
    · simp only [if_true]
      apply List.map_congr_left
      intro j _
      unfold clE
      rw [q]; simp
  | false =>
    have ez : zipF subX ((List.range (C - k)).map (fun j => g a (k + j))) (mulsL (g a k) ((List.range (C - k)).map (fun j => g n (k + j)))) = (List.range (C - k)).map (fun j => clE g n k a (k + j)) := by
      apply List.ext_getElem (by simp [zipF, mulsL])
      intro j h3 h4
      have hj : j < C - k := by simpa using h4
      simp only [zipF, mulsL, List.getElem_zipWith, List.getElem_map, List.getElem_range]
      rw [cl_sub hf (hok a (k + j) ha (by omega)) (hok n (k + j) hn (by omega)) q]
      rfl
    constructor
    · simp only [Bool.false_or, Bool.and_eq_true, ez]
      rw [fine_iff, fine_iff]
      have hg : ∀ b, k ≤ b → b < C → goodF (clE g n k a b) := fun b _ hb => good_clE hok.good hn hk ha hb
      constructor
      · rintro ⟨_, h3⟩ b hb1 hb2
        have h4 := h3 (b - k) (by simp; omega)
        simp only [List.getElem_map, List.getElem_range] at h4
        rw [show k + (b - k) = b by omega] at h4
        rw [ok_bad (hg b hb1 hb2), h4]; rfl
      · intro h3
        refine ⟨fun j hj => ?_, fun j hj => ?_⟩
        · have hj' : j < C - k := by simpa [mulsL] using hj
          simp only [mulsL, List.getElem_map, List.getElem_range]
          cases qb : badF (mulX (g n (k + j)) (g a k)) with
          | false => rfl
          | true =>
            exfalso
            have h4 := h3 (k + j) (by omega) (by omega)
            have h5 : clE g n k a (k + j) = subX (g a (k + j)) (mulX (g n (k + j)) (g a k)) := (cl_sub hf (hok a (k + j) ha (by omega)) (hok n (k + j) hn (by omega)) q).symm
            rw [h5, bad_sub qb (ok_mul (hok n (k + j) hn (by omega)) hf)] at h4
            cases h4
        · have hj' : j < C - k := by simpa using hj
          simp only [List.getElem_map, List.getElem_range]
          exact bad_ok (h3 (k + j) (by omega) (by omega))
    · simp only [Bool.false_eq_true, if_false]
      exact ez
/-- when all rows went well -/
theorem use_fine {R C i n k : Nat} {e : El} (hok : OkM R C e.g) (hn0 : e.piv.length = n) (hi : i < R) (hn : n < R) (hk : k < C) (hp : nilF (e.g i k) = false)
    (hq : ∀ b, k ≤ b → b < C → okF (dvG (exG e.g i n) n k n b) = true) (hr : ∀ a, a < R → a ≠ n → ∀ b, k ≤ b → b < C → okF (clE (dvG (exG e.g i n) n k) n k a b) = true) : fineG R C (useE e i k).g = true := by
  rw [fineG_iff (useE_good hok hi (by rw [hn0]; exact hn) hk hp)]
  intro a b ha hb
  unfold useE
  rw [hn0]
  show okF (clG _ n k a b) = true
  unfold clG
  by_cases h1 : a ≠ n ∧ k ≤ b
  · rw [if_pos h1]; exact hr a ha h1.1 b h1.2 hb
  · rw [if_neg h1]
    by_cases h2 : a = n ∧ k ≤ b
    · obtain ⟨rfl, h2⟩ := h2; exact hq b h2 hb
    · unfold dvG
      rw [if_neg h2]
      exact hok.ex hi hn a b ha hb
theorem use_badQ {R C i n k b : Nat} {e : El} (hok : OkM R C e.g) (hn0 : e.piv.length = n) (hi : i < R) (hn : n < R) (hk : k < C) (hp : nilF (e.g i k) = false) (hb : b < C) (hb2 : k ≤ b) (h : ¬ okF (dvG (exG e.g i n) n k n b) = true) : fineG R C (useE e i k).g = false := by
  cases q : fineG R C (useE e i k).g with
  | false => rfl
  | true =>
    have h1 := (fineG_iff (useE_good hok hi (by rw [hn0]; exact hn) hk hp)).1 q n b hn hb
    unfold useE at h1
    rw [hn0] at h1
    have h2 : clG (dvG (exG e.g i n) n k) n k n b = dvG (exG e.g i n) n k n b := by unfold clG; rw [if_neg (by omega)]
    exact absurd (h2 ▸ (show okF (clG (dvG (exG e.g i n) n k) n k n b) = true from h1)) h
theorem use_badR {R C i n k a b : Nat} {e : El} (hok : OkM R C e.g) (hn0 : e.piv.length = n) (hi : i < R) (hn : n < R) (hk : k < C) (hp : nilF (e.g i k) = false) (ha : a < R) (han : a ≠ n) (hb : b < C) (hb2 : k ≤ b) (h : ¬ okF (clE (dvG (exG e.g i n) n k) n k a b) = true) : fineG R C (useE e i k).g = false := by
  cases q : fineG R C (useE e i k).g with
  | false => rfl
  | true =>
    have h1 := (fineG_iff (useE_good hok hi (by rw [hn0]; exact hn) hk hp)).1 q a b ha hb
    unfold useE at h1
    rw [hn0] at h1
    have h2 : clG (dvG (exG e.g i n) n k) n k a b = clE (dvG (exG e.g i n) n k) n k a b := by unfold clG; rw [if_pos ⟨han, hb2⟩]
    exact absurd (h2 ▸ (show okF (clG (dvG (exG e.g i n) n k) n k a b) = true from h1)) h
end Go.Proofs.YtlepgkkpopjgoaaGreat
