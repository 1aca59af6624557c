/- compare of the program: which of two numbers is the greater. -/
import Derived.Test.YtofmpfcbdemcnaaDoorToInt
namespace Go.Proofs.YtofmpfcbdemcnaaDoor
open Go.RowKit Go.Shelf

attribute [local go_sem] Oper.semAt_some

def cmpI (a b : Int) : Int := if a < b then -1 else if b < a then 1 else 0
theorem cmpI_nat (x y : Nat) : cmpI (x : Int) (y : Int) = cmpN x y := by
  unfold cmpI cmpN
  split <;> split <;> (try split) <;> omega
set_option maxHeartbeats 400000 in
theorem is_nan (a : Int) (w : World) :
    Calls Tryd.prog 87 #[.int .i64 a] w fun e w' => e = .returned (.bool false) ∧ w' = w := by
  have h : (a != a) = false := by simp
  go_enter Tryd.func87, Tryd.ntmps87
  go_wp2
  go_ret
  exact ⟨rfl, rfl⟩
set_option maxHeartbeats 400000 in
theorem cmp_ints (a b : Int) (w : World) :
    Calls Tryd.prog 69 #[.int .i64 a, .int .i64 b] w fun e w' => e = .returned (.int .i64 (cmpI a b)) ∧ w' = w := by
  have HC : Hid (cmpI a b = if a < b then -1 else if b < a then 1 else 0) := rfl
  by_cases h1 : a < b
  · rw [if_pos h1] at HC
    go_enter Tryd.func69, Tryd.ntmps69
    go_wp2_with (first | (go_at_call 87; refine (is_nan _ _).mono ?_; rintro e w' ⟨rfl, rfl⟩))
    go_ret
    exact ⟨by rw [HC.out]; rfl, rfl⟩
  · rw [if_neg h1] at HC
    by_cases h2 : b < a
    · rw [if_pos h2] at HC
      go_enter Tryd.func69, Tryd.ntmps69
      go_wp2_with (first | (go_at_call 87; refine (is_nan _ _).mono ?_; rintro e w' ⟨rfl, rfl⟩))
      go_ret
      exact ⟨by rw [HC.out]; rfl, rfl⟩
    · rw [if_neg h2] at HC
      go_enter Tryd.func69, Tryd.ntmps69
      go_wp2_with (first | (go_at_call 87; refine (is_nan _ _).mono ?_; rintro e w' ⟨rfl, rfl⟩))
      go_ret
      exact ⟨by rw [HC.out]; rfl, rfl⟩

/-- where the limbs agree from the top down to place n - k, the numbers do -/
theorem agree_desc (x y n : Nat) (hx : x < pw n) (hy : y < pw n) : ∀ k, k ≤ n → (∀ i ∈ descN n k, dig x i = dig y i) → x / pw (n - k) = y / pw (n - k)
  | 0, _, _ => by rw [Nat.sub_zero]; exact cmp_start hx hy
  | k + 1, hk, h => by
    rw [descN_succ] at h
    have ih := agree_desc x y n hx hy k (by omega) (fun i hi => h i (by simp [hi]))
    have hd := h (n - 1 - k) (by simp)
    rw [show n - k = (n - 1 - k) + 1 by omega] at ih
    have := cmp_up ih hd
    rw [show n - (k + 1) = n - 1 - k by omega]
    exact this
theorem cmp_of_digit {x y i : Nat} (h : x / pw (i + 1) = y / pw (i + 1)) (hd : dig x i ≠ dig y i) : cmpI (dig x i) (dig y i) = cmpN x y := by
  rcases Nat.lt_or_ge (dig x i) (dig y i) with h1 | h1
  · rw [cmpN_lt (cmp_lt h h1)]; unfold cmpI; rw [if_pos (by omega)]
  · rw [cmpN_gt (cmp_lt h.symm (by omega))]; unfold cmpI; rw [if_neg (by omega), if_pos (by omega)]

def Agree (x y : Nat) (l : List Nat) : Prop := ∀ i ∈ l, dig x i = dig y i
theorem agree_snoc {x y i : Nat} {l : List Nat} (h : Agree x y l) (hi : dig x i = dig y i) : Agree x y (l ++ [i]) := by
  intro j hj
  rcases List.mem_append.1 hj with hj | hj
  · exact h j hj
  · obtain rfl : j = i := by simpa using hj
    exact hi
/-- the loop has been left at a place where the limbs differ -/
def Parted (x y : Nat) (l : List Nat) (B : Nat) (W : World) : Prop := ∃ ini i, l = ini ++ [i] ∧ Agree x y ini ∧ dig x i ≠ dig y i ∧ Boxed W B 3 (.int .i64 (cmpI (dig x i) (dig y i)))

set_option maxRecDepth 100000 in
set_option maxHeartbeats 2000000 in
theorem impl_compare (va vb : Value) (x y : Nat) (w : World) (ha : RowOf iV w va (limI x)) (hb : RowOf iV w vb (limI y)) (hx : nlen x ≤ 1000) (hy : nlen y ≤ 1000) :
    Calls Tryd.prog 42 #[va, vb] w fun e w' => e = .returned (.int .i64 (cmpN x y)) ∧ Below w.heap.size w w' := by
  have H := Lib.hid ha
  have H2 := Lib.hid hb
  obtain ⟨a, cap, rfl, h1, h2, h3⟩ := ha
  obtain ⟨b, cb, rfl, h4, h5, h6⟩ := hb
  clear h1 h2 h3 h4 h5 h6
  rw [limI_length] at H H2 ⊢
  rw [limI_length]
  have hrd := Lib.hid (rd_limbs H.out)
  have hrd2 := Lib.hid (rd_limbs H2.out)
  have hab := Lib.hid (rd_block hrd.out)
  by_cases hlen : nlen x = nlen y
  · have HA : Hid (∀ k, k ≤ nlen x → Agree x y (descN (nlen x) k) → x / pw (nlen x - k) = y / pw (nlen x - k)) := agree_desc x y (nlen x) (lt_pw_nlen x) (by rw [hlen]; exact lt_pw_nlen y)
    obtain ⟨n, hn⟩ : ∃ n, nlen x = n := ⟨_, rfl⟩
    rw [← hlen] at H2 hrd2 ⊢
    rw [hn] at hx H hrd H2 hrd2 HA hab ⊢
    clear hn hlen hy
    have hneq : ((n : Int) != (n : Int)) = false := by simp
    refine (callsIn_wide (n := 3)).1 ?_
    refine callsIn_of_wp_marks Tryd.func42 rfl trivial ?_ rfl
    simp only [Tryd.ntmps42, List.size_toArray, List.length_cons, List.length_nil, Nat.reduceAdd, Nat.reduceSub, Array.replicate_succ, Array.replicate_zero, List.push_toArray, List.append_toArray, List.nil_append, List.cons_append]
    gi_wp2_with (refine ⟨trivial, ?_⟩; gi_at_call 66; refine (back_in Fence.wide _ trivial rfl _ _ _ _).mono ?_; rintro e w' ⟨rfl, rfl⟩)
    clear hneq
    have b0 := Boxed.new w 53 (.slice b n cb)
    have b1 := Boxed.new (w.alloc (.cells #[.slice b n cb] 53)) 3 (.int .i64 0)
    have b2 := Boxed.new ((w.alloc (.cells #[.slice b n cb] 53)).alloc (.cells #[.int .i64 0] 3)) 53 (.slice a n cap)
    have bB : Below w.heap.size w (((w.alloc (.cells #[.slice b n cb] 53)).alloc (.cells #[.int .i64 0] 3)).alloc (.cells #[.slice a n cap] 53)) :=
      (((Below.refl _ w).alloc (Nat.le_refl _) _).alloc (by simp) _).alloc (by simp; omega) _
    have B0 := Lib.hid ((b0.alloc (.cells #[.int .i64 0] 3)).alloc (.cells #[.slice a n cap] 53))
    have B1 := Lib.hid (b1.alloc (.cells #[.slice a n cap] 53))
    have B2 := Lib.hid b2
    have BB := Lib.hid bB
    have BS := Lib.hid (show (((w.alloc (.cells #[.slice b n cb] 53)).alloc (.cells #[.int .i64 0] 3)).alloc (.cells #[.slice a n cap] 53)).heap.size = w.heap.size + 1 + 1 + 1 by simp)
    have BR := Lib.hid (rd_below hrd.out bB)
    clear b0 b1 b2 bB
    simp only [World.size_alloc] at B0 B1 B2
    generalize ((w.alloc (.cells #[.slice b n cb] 53)).alloc (.cells #[.int .i64 0] 3)).alloc (.cells #[.slice a n cap] 53) = W0 at B0 B1 B2 BB BS BR ⊢
    obtain ⟨h, hh⟩ : ∃ h, w.heap.size = h := ⟨_, rfl⟩
    rw [hh] at B0 B1 B2 BB BS hab ⊢
    have HH := Lib.hid hh
    clear hh
    have hS : W0.heap.size = h + 1 + 1 + 1 := BS.out
    refine wpIn_rangeFunc_ownG rfl (by omega) (gf := 84) (lb := #[.pointer (some ⟨h + 1 + 1, 0, none⟩)]) rfl trivial (enters_of Tryd.func84 (by kernel_rfl) rfl)
      (back_stops Fence.wide _ trivial rfl (by omega) (h + 1 + 1) h n cap a (VL x) (by omega) W0 B2.out.cell BR.out) (fun h k => KpB.trans h k) (KpB.putObj (by omega) (by omega) (fun b o e hl => by have := hab.out b o e hl; omega)) (Below.refl _ _) (fun _ => rfl)
      (fun pre W => (Boxed W h 53 (.slice b n cb) ∧ Boxed W (h + 1) 3 (.int .i64 0) ∧ Agree x y (pre.map idx)) ∧ Below h w W)
      (fun c pre W => (c = .ret ∧ Parted x y (pre.map idx) (h + 1) W) ∧ Below h w W)
      (OwnFrom.and (Own.from (fun s A B row hs hg hr => ⟨boxed_own _ _ (fun _ : List (BackA n (VL x)) => _) s A B row hs.1 hg hr, boxed_own _ _ (fun _ : List (BackA n (VL x)) => _) s A B row hs.2.1 hg hr, hs.2.2⟩) _) (ownFrom_below (by rw [HH.out]; exact Nat.le_refl _) (by omega)))
      (fun c => OwnFrom.and (Own.from (fun s A B row hs hg hr => by
        obtain ⟨e1, ini, i, e2, e3, e4, e5⟩ := hs
        exact ⟨e1, ini, i, e2, e3, e4, boxed_own _ _ (fun _ : List (BackA n (VL x)) => _) s A B row e5 hg hr⟩) _) (ownFrom_below (by rw [HH.out]; exact Nat.le_refl _) (by omega)))
      ⟨⟨B0.out, B1.out, fun i hi => by simp at hi⟩, BB.out⟩
      (fun z => { tmps := #[.slice a n cap, .slice b n cb, undef, .pointer (some ⟨h, 0, none⟩), .pointer (some ⟨h + 1, 0, none⟩), .int .i64 (z.1.1 : Int), .int .i64 z.1.2, .slice a n cap, .int .i64 n, .slice b n cb, .int .i64 n, .bool false, undef, undef, undef, undef, undef, .slice a n cap, .func (.func 84) #[] #[.pointer (some ⟨h + 1 + 1, 0, none⟩)], .int .i64 (z.1.1 : Int), .int .i64 z.1.2, undef, undef, undef, undef, undef, undef, undef, undef, undef, undef, undef, undef], defers := [] }) ?assign ?body ?done ?stop
    case assign =>
      intro l z W K hK
      gi_wp2
      exact hK
    case body =>
      rintro l pre z W ⟨⟨h0, h1, he⟩, hB⟩ _
      have hi := z.2.1
      have hz : z.1.2 = (dig x z.1.1 : Int) := z.2.2
      have hmap : Hid ((pre ++ [z]).map idx = pre.map idx ++ [z.1.1]) := by unfold Hid; rw [List.map_append]; rfl
      rw [hz]
      obtain ⟨i, hie⟩ : ∃ i, z.1.1 = i := ⟨_, rfl⟩
      rw [hie] at hi hmap ⊢
      obtain ⟨b', o', z', he1, he2, hce⟩ := hrd2.out i hi
      have hblk := World.block_lt_of_cell? w _ hce
      have hce1 : W.cell? ⟨b', o' + i, none⟩ = some (.int .i64 z') := (hB.cell (p := ⟨b', o' + i, none⟩) (by rw [← HH.out]; simpa using hblk)).trans hce
      have he2' : z' = (dig y i : Int) := he2
      subst he2'
      have HE1 := Lib.hid he1
      subst he1
      obtain ⟨dx, hdx⟩ : ∃ d, dig x i = d := ⟨_, rfl⟩
      obtain ⟨dy, hdy⟩ : ∃ d, dig y i = d := ⟨_, rfl⟩
      have HDX := Lib.hid hdx
      have HDY := Lib.hid hdy
      rw [hdy] at hce1
      rw [hdx]
      have K0 := Lib.hid h0
      have K1 := Lib.hid h1
      have KB := Lib.hid hB
      have KE := Lib.hid he
      have c0 := h0.cell
      have c1 := h1.cell
      have f1 := h1.frozen
      have HI := Lib.hid hi
      clear hdx hdy h0 h1 hB he he2 hce hz hie hblk
      by_cases hd : dx = dy
      · have hne : ((dx : Int) != (dy : Int)) = false := by simp; omega
        have HD := Lib.hid hd
        clear hd
        have hi2 : (i : Int) < n := by omega
        gi_wp2
        refine ⟨KeepsFrom.refl _ _, KpB.refl _, ⟨K0.out, K1.out, ?_⟩, KB.out⟩
        rw [hmap.out]
        exact agree_snoc KE.out (by rw [HDX.out, HDY.out, HD.out])
      · have hne : ((dx : Int) != (dy : Int)) = true := by simp; omega
        have HD := Lib.hid hd
        clear hd
        have hi2 : (i : Int) < n := by omega
        gi_wp2_with (refine ⟨trivial, ?_⟩; gi_at_call 69; refine (CallsIn.inRound l (callsIn_wide.2 (cmp_ints _ _ _))).mono ?_; rintro e w' ⟨rfl, rfl⟩)
        refine ⟨(KeepsOthers.setCell _ _ _).from _, ⟨rfl, _, i, hmap.out, KE.out, by rw [HDX.out, HDY.out]; exact HD.out, ?_⟩, KB.out.setCell (p := ⟨h + 1, 0, none⟩) (by simp) _⟩
        rw [HDX.out, HDY.out]
        exact K1.out.set _
    case done =>
      rintro D ys W hD hS ⟨⟨h0, h1, he⟩, hB⟩ hK
      rw [hS] at he
      have hxy := HA.out n (Nat.le_refl _) he
      rw [Nat.sub_self] at hxy
      have hxy := cmp_end hxy
      have HR : Hid (cmpN x y = 0) := by unfold Hid; rw [hxy]; exact cmpN_eq y
      have K1 := Lib.hid h1
      have KB := Lib.hid hB
      have HK := Lib.hid hK
      have c1 := h1.cell
      have f1 := h1.frozen
      have HDD := Lib.hid hD
      clear hS h0 h1 hB hK hD hxy he
      gi_wp2
      have hK' := (KeepsOthers.setCell W ⟨h + 1, 0, none⟩ (.int .i64 0)).same D _ HK.out rfl
      have e1 := boxed_shut (K1.out.set (.int .i64 0)) hK'
      have hBl := KB.out.setCell (p := ⟨h + 1, 0, none⟩) (by simp) (.int .i64 0)
      refine ⟨by simp, .inl ⟨_, _, rfl, run_takeDeferred hK', ?_⟩⟩
      refine ⟨.int .i64 0, ?_, by rw [HR.out], by rw [HH.out]; exact below_shut hBl (by have := HDD.out; omega) (by have := hBl.size; rw [HH.out] at this; exact this)⟩
      simp [results, Tryd.f42, go_sem, e1]
    case stop =>
      rintro D c pre W hD ⟨k, hk, hp⟩ ⟨⟨rfl, ini, i, e1, e2, e3, h1⟩, hB⟩ hK
      rw [hp] at e1
      obtain ⟨j, rfl⟩ : ∃ j, k = j + 1 := by
        cases k with
        | zero => simp [descN] at e1
        | succ k' => exact ⟨k', rfl⟩
      rw [descN_succ] at e1
      obtain ⟨e4, e5⟩ := List.append_inj' e1 rfl
      obtain rfl : n - 1 - j = i := by simpa using e5
      have hxy := HA.out j (by omega) (by rw [e4]; exact e2)
      rw [show n - j = (n - 1 - j) + 1 by omega] at hxy
      have HR := Lib.hid (cmp_of_digit hxy e3)
      have e1' := boxed_shut h1 hK
      clear e1 e2 e3 e4 e5 hp hxy
      gi_wp2
      refine ⟨by simp, .inl ⟨_, _, rfl, run_takeDeferred hK, ?_⟩⟩
      refine ⟨.int .i64 (cmpI (dig x (n - 1 - j)) (dig y (n - 1 - j))), ?_, by rw [HR.out], by rw [HH.out]; exact below_shut hB (by omega) (by have := hB.size; rw [HH.out] at this; exact this)⟩
      simp [results, Tryd.f42, go_sem, e1']
  · have HR : Hid (cmpI (nlen x) (nlen y) = cmpN x y) := by
      unfold Hid
      rw [cmpI_nat]
      rcases Nat.lt_or_ge (nlen x) (nlen y) with h1 | h1
      · rw [cmpN_lt h1, cmpN_lt (lt_of_nlen h1)]
      · rw [cmpN_gt (show nlen y < nlen x by omega), cmpN_gt (lt_of_nlen (show nlen y < nlen x by omega))]
    have hneq : ((nlen x : Int) != (nlen y : Int)) = true := by simp; omega
    have HL := Lib.hid hlen
    clear hlen
    go_enter Tryd.func42, Tryd.ntmps42
    go_wp2_with (go_at_call 69; refine (cmp_ints _ _ _).mono ?_; rintro e w' ⟨rfl, rfl⟩)
    refine bodyPost_ret (v := .int .i64 (cmpI (nlen x) (nlen y))) ?_ rfl ⟨by rw [HR.out], ?_⟩
    · simp [results, Tryd.results42, go_sem]
    · exact ((Below.refl _ w).alloc (Nat.le_refl _) _).alloc (by simp) _

end Go.Proofs.YtofmpfcbdemcnaaDoor
