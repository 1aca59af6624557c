/- divideByInt of the program: the quotient by one limb, and the rest. -/
import Derived.Test.YtofmpfcbdemcnaaDoorCompare
import Derived.Test.YtofmpfcbdemcnaaDoorSpecDiv
import Derived.Sort.QuietIn
import Derived.Sort.QuietTacIn
import Derived.Sort.BigQuietIn
namespace Go.Proofs.YtofmpfcbdemcnaaDoor
open Go.RowKit Go.Shelf
set_option maxRecDepth 100000

theorem wide_fn (f : Nat) : Fence.wide.fn f = True := rfl
attribute [local go_sem] Oper.semAt_some wide_fn

theorem ownI_own {β : Type} (B : Nat) (v : Value) (f : β → List Int) : Own (fun s W => OwnI W B v (f s)) := fun s X Y row hs hg hr =>
  hs.other hg (fun g g' e1 e2 he => by
    subst he
    obtain ⟨o, ho, hc⟩ := hr _ e2
    rcases hs.2 with ⟨hv, _⟩ | ⟨g2, cap, cur, hv, _, hgb, _⟩
    · rw [hv] at e1; simp [Value.ownBlock] at e1
    · rw [hv] at e1
      obtain rfl : g2 = g := by simpa [Value.ownBlock] using e1
      rw [hgb] at ho; cases ho; cases hc)

set_option maxHeartbeats 400000 in
/-- trimmed of a row with an address: the very slice -/
theorem impl_trimmedL (g c : Nat) (T n B : Nat) (w : World) (h : OwnI w B (.slice (some ⟨g, 0, none⟩) n c) (listF n (digF T))) (hT : nlen T ≤ n) :
    Calls Tryd.prog 40 #[.slice (some ⟨g, 0, none⟩) n c] w fun e w' => e = .returned (.slice (some ⟨g, 0, none⟩) (nlen T) c) ∧ w' = w := by
  have hcm := h.cap_le
  unfold maxLen at hcm
  have H := Lib.hid h
  clear h
  go_enter Tryd.func40, Tryd.ntmps40
  go_wp2
  go_loop [0] (fun sv => ∃ k : Nat, k ≤ n ∧ nlen T ≤ k ∧ sv = .slice (some ⟨g, 0, none⟩) k c) (fun sv => match sv with | .slice _ k _ => k | _ => 0)
  case atStart => exact ⟨n, Nat.le_refl _, hT, rfl⟩
  case round =>
    obtain ⟨k, hk, hTk, rfl⟩ := hrel
    by_cases hp : 0 < k
    · have hcl := H.out.cell (k - 1) (by rw [listF_length]; omega)
      rw [listF_get] at hcl
      unfold digF at hcl
      have e1 : ((k : Int) - 1).toNat = k - 1 := by omega
      have HM := Lib.hid (trim_more hTk hp)
      have HD := Lib.hid (trim_done hTk hp)
      obtain ⟨d, hd⟩ : ∃ d, dig T (k - 1) = d := ⟨_, rfl⟩
      rw [hd] at hcl HM HD
      clear hd
      by_cases h0 : d = 0
      · have HM2 := Lib.hid (HM.out h0)
        subst h0
        go_wp2
        go_round
        case rel => exact ⟨k - 1, by omega, HM2.out, by go_num⟩
        case measure => simp; omega
      · have HD2 := Lib.hid (HD.out h0)
        have hb : ((d : Int) == 0) = false := by simp; exact h0
        clear h0
        go_wp2
        go_ret
        exact ⟨by rw [← HD2.out]; rfl, rfl⟩
    · obtain rfl : k = 0 := by omega
      have HT : Hid (nlen T = 0) := by unfold Hid; omega
      go_wp2
      go_ret
      exact ⟨by rw [HT.out]; rfl, rfl⟩
theorem OwnI.trim {g c T n B : Nat} {w : World} (h : OwnI w B (.slice (some ⟨g, 0, none⟩) n c) (listF n (digF T))) (hT : nlen T ≤ n) : OwnI w B (.slice (some ⟨g, 0, none⟩) (nlen T) c) (limI T) := by
  have := h.take hT
  rw [limI_take hT] at this
  exact this

/-- the rounds: the rest, and the digits -/
def dvF (x d : Nat) (s : Nat × (Nat → Int)) (i : Nat) : Nat × (Nat → Int) := ((s.1 * 1000000000 + dig x i) % d, fun j => if j = i then (((s.1 * 1000000000 + dig x i) / d : Nat) : Int) else s.2 j)
def dvA (x d : Nat) (l : List Nat) : Nat × (Nat → Int) := l.foldl (dvF x d) (0, fun _ => 0)
theorem dvA_snoc (x d : Nat) (l : List Nat) (i : Nat) : dvA x d (l ++ [i]) = dvF x d (dvA x d l) i := by simp [dvA]
theorem dvA_lt (x d : Nat) (hd : 0 < d) : ∀ l : List Nat, (dvA x d l).1 < d := by
  have h : ∀ (l : List Nat) (s : Nat × (Nat → Int)), s.1 < d → (l.foldl (dvF x d) s).1 < d := by
    intro l
    induction l with
    | nil => exact fun s h => h
    | cons i r ih => exact fun s h => ih _ (Nat.mod_lt _ hd)
  exact fun l => h l _ hd
theorem dvA_desc (x d n : Nat) (hd : 0 < d) (hx : x < pw n) : ∀ k, k ≤ n → (dvA x d (descN n k)).1 = x / pw (n - k) % d ∧ ∀ j, j < n → (dvA x d (descN n k)).2 j = if n - k ≤ j then digF (x / d) j else 0
  | 0, _ => by
    refine ⟨by rw [descN_zero, Nat.sub_zero, Nat.div_eq_of_lt hx]; rfl, fun j hj => ?_⟩
    rw [if_neg (by omega)]; rfl
  | k + 1, h => by
    obtain ⟨ih1, ih2⟩ := dvA_desc x d n hd hx k (by omega)
    obtain ⟨i, hi⟩ : ∃ i, n - 1 - k = i := ⟨_, rfl⟩
    have hs := div_digit x d i hd
    rw [descN_succ, dvA_snoc, hi]
    rw [show n - k = i + 1 by omega] at ih1 ih2
    rw [show n - (k + 1) = i by omega]
    unfold dvF
    rw [ih1, hs.1, hs.2]
    refine ⟨rfl, fun j hj => ?_⟩
    show (if j = i then _ else _) = _
    by_cases e : j = i
    · subst e; rw [if_pos rfl, if_pos (Nat.le_refl _)]; rfl
    · rw [if_neg e, ih2 j hj]
      by_cases h1 : i + 1 ≤ j
      · rw [if_pos h1, if_pos (by omega)]
      · rw [if_neg h1, if_neg (by omega)]
theorem listF_set {n i : Nat} {F : Nat → Int} {q : Int} : (listF n F).set i q = listF n (fun j => if j = i then q else F j) := by
  apply List.ext_getElem (by simp [listF_length])
  intro j h1 h2
  rw [List.getElem_set, listF_get, listF_get]
  by_cases e : i = j
  · subst e; simp
  · rw [if_neg e, if_neg (fun h => e h.symm)]

set_option maxRecDepth 100000 in
set_option maxHeartbeats 2000000 in
theorem impl_divInt (va : Value) (x d : Nat) (w : World) (ha : RowOf iV w va (limI x)) (hd0 : 0 < d) (hd1 : d < 1000000000) (hx : nlen x ≤ 1000) :
    Calls Tryd.prog 58 #[va, .int .i64 d] w fun e w' => ∃ v, e = .returned (.tuple #[v, .int .i64 ((x % d : Nat) : Int)]) ∧ OwnI w' w.heap.size v (limI (x / d)) ∧ Below w.heap.size w w' := by
  have H := Lib.hid ha
  obtain ⟨a, cap, rfl, h1, h2, h3⟩ := ha
  clear h1 h2 h3
  rw [limI_length] at H ⊢
  have hrd := Lib.hid (rd_limbs H.out)
  have hab := Lib.hid (rd_block hrd.out)
  have HA := Lib.hid (dvA_desc x d (nlen x) hd0 (lt_pw_nlen x))
  have HL := Lib.hid (dvA_lt x d hd0)
  have HT := Lib.hid (nlen_div (x := x) (d := d))
  obtain ⟨n, hn⟩ : ∃ n, nlen x = n := ⟨_, rfl⟩
  rw [hn] at hx H hrd hab HA HT ⊢
  clear hn
  have hmk := make_limbs n (by omega)
  refine (callsIn_wide (n := 3)).1 ?_
  refine callsIn_of_wp_marks Tryd.func58 rfl trivial ?_ rfl
  simp only [Tryd.ntmps58, List.size_toArray, List.length_cons, List.length_nil, Nat.reduceAdd, Nat.reduceSub, Array.replicate_succ, Array.replicate_zero, List.push_toArray, List.append_toArray, List.nil_append, List.cons_append]
  gi_wp2_with (gi_at_call 66; refine (back_in Fence.wide _ trivial rfl _ _ _ _).mono ?_; rintro e w' ⟨rfl, rfl⟩)
  clear hmk
  obtain ⟨W0, hW0⟩ : ∃ W0, W0 = ((((w.alloc (.cells #[.int .i64 d] 3)).alloc (zeroObj n)).alloc (.cells #[.slice (some ⟨w.heap.size + 1, 0, none⟩) n n] 53)).alloc (.cells #[.int .i64 0] 3)).alloc (.cells #[.slice a n cap] 53) := ⟨_, rfl⟩
  have b0 := ((((Boxed.new w 3 (.int .i64 d)).alloc (zeroObj n)).alloc (.cells #[.slice (some ⟨w.heap.size + 1, 0, none⟩) n n] 53)).alloc (.cells #[.int .i64 0] 3)).alloc (.cells #[.slice a n cap] 53)
  have b1 := (((zeroObj_own (w.alloc (.cells #[.int .i64 d] 3)) (w.alloc (.cells #[.int .i64 d] 3)).heap.size n (Nat.le_refl _) (by omega)).alloc (.cells #[.slice (some ⟨w.heap.size + 1, 0, none⟩) n n] 53)).alloc (.cells #[.int .i64 0] 3)).alloc (.cells #[.slice a n cap] 53)
  have b2 := ((Boxed.new ((w.alloc (.cells #[.int .i64 d] 3)).alloc (zeroObj n)) 53 (.slice (some ⟨w.heap.size + 1, 0, none⟩) n n)).alloc (.cells #[.int .i64 0] 3)).alloc (.cells #[.slice a n cap] 53)
  have b3 := (Boxed.new (((w.alloc (.cells #[.int .i64 d] 3)).alloc (zeroObj n)).alloc (.cells #[.slice (some ⟨w.heap.size + 1, 0, none⟩) n n] 53)) 3 (.int .i64 0)).alloc (.cells #[.slice a n cap] 53)
  have b4 := Boxed.new ((((w.alloc (.cells #[.int .i64 d] 3)).alloc (zeroObj n)).alloc (.cells #[.slice (some ⟨w.heap.size + 1, 0, none⟩) n n] 53)).alloc (.cells #[.int .i64 0] 3)) 53 (.slice a n cap)
  have bB : Below w.heap.size w W0 := by
    rw [hW0]
    exact (((((Below.refl _ w).alloc (Nat.le_refl _) _).alloc (by simp) _).alloc (by simp; omega) _).alloc (by simp; omega) _).alloc (by simp; omega) _
  have bS : W0.heap.size = w.heap.size + 1 + 1 + 1 + 1 + 1 := by rw [hW0]; simp
  rw [← hW0] at b0 b1 b2 b3 b4 ⊢
  simp only [World.size_alloc] at b0 b1 b2 b3 b4
  have B0 := Lib.hid b0
  have O1 := Lib.hid b1
  have B2 := Lib.hid b2
  have B3 := Lib.hid b3
  have B4 := Lib.hid b4
  have BB := Lib.hid bB
  have BR := Lib.hid (rd_below hrd.out bB)
  have BS := Lib.hid bS
  clear b0 b1 b2 b3 b4 bB hW0 bS
  obtain ⟨h, hh⟩ : ∃ h, w.heap.size = h := ⟨_, rfl⟩
  rw [hh] at B0 O1 B2 B3 B4 BB BS hab ⊢
  have HH := Lib.hid hh
  clear hh
  have hS : W0.heap.size = h + 1 + 1 + 1 + 1 + 1 := BS.out
  refine wpIn_rangeFunc_ownG rfl (by omega) (gf := 84) (lb := #[.pointer (some ⟨h + 1 + 1 + 1 + 1, 0, none⟩)]) rfl trivial (enters_of Tryd.func84 (by kernel_rfl) rfl)
    (back_stops Fence.wide _ trivial rfl (by omega) (h + 1 + 1 + 1 + 1) h n cap a (VL x) (by omega) W0 B4.out.cell BR.out) (fun h k => KpB.trans h k) (KpB.putObj (by omega) (by omega) (fun b o e hl => by have := hab.out b o e hl; omega)) (Below.refl _ _) (fun _ => rfl)
    (fun pre W => (Boxed W h 3 (.int .i64 d) ∧ OwnI W (h + 1) (.slice (some ⟨h + 1, 0, none⟩) n n) (listF n (dvA x d (pre.map idx)).2) ∧ Boxed W (h + 1 + 1) 53 (.slice (some ⟨h + 1, 0, none⟩) n n) ∧ Boxed W (h + 1 + 1 + 1) 3 (.int .i64 ((dvA x d (pre.map idx)).1 : Nat))) ∧ Below h w W)
    (fun _ _ _ => False)
    (OwnFrom.and (Own.from (fun s A B row hs hg hr => ⟨boxed_own _ _ (fun _ : List (BackA n (VL x)) => _) s A B row hs.1 hg hr, ownI_own _ _ (fun s : List (BackA n (VL x)) => listF n (dvA x d (s.map idx)).2) s A B row hs.2.1 hg hr, boxed_own _ _ (fun _ : List (BackA n (VL x)) => _) s A B row hs.2.2.1 hg hr, boxed_own _ _ (fun s : List (BackA n (VL x)) => .int .i64 ((dvA x d (s.map idx)).1 : Nat)) s A B row hs.2.2.2 hg hr⟩) _) (ownFrom_below (by rw [HH.out]; exact Nat.le_refl _) (by omega)))
    (fun _ _ _ _ _ hs _ _ => hs)
    ⟨⟨B0.out, O1.out, B2.out, B3.out⟩, BB.out⟩
    (fun z => { tmps := #[.slice a n cap, .int .i64 d, undef, .pointer (some ⟨h, 0, none⟩), .slice none 0 0, .int .i64 0, .pointer (some ⟨h + 1 + 1, 0, none⟩), .pointer (some ⟨h + 1 + 1 + 1, 0, none⟩), .int .i64 (z.1.1 : Int), .int .i64 z.1.2, .slice a n cap, .int .i64 n, .slice (some ⟨h + 1, 0, none⟩) n n, .slice a n cap, .func (.func 84) #[] #[.pointer (some ⟨h + 1 + 1 + 1 + 1, 0, none⟩)], .int .i64 (z.1.1 : Int), .int .i64 z.1.2, undef, undef, undef, undef, undef, undef, undef, undef, undef, undef, undef, undef, undef, undef, undef, undef], defers := [] }) ?assign ?body ?done ?stop
  case assign =>
    intro l z W K hK
    gi_wp2
    exact hK
  case body =>
    rintro l pre z W ⟨⟨h0, h1, h2, h3⟩, hB⟩ _
    have hi := z.2.1
    have hz : z.1.2 = (dig x z.1.1 : Int) := z.2.2
    have hmap : Hid ((pre ++ [z]).map idx = pre.map idx ++ [z.1.1]) := by unfold Hid; rw [List.map_append]; rfl
    rw [hz]
    obtain ⟨i, hie⟩ : ∃ i, z.1.1 = i := ⟨_, rfl⟩
    rw [hie] at hi hmap ⊢
    have hel := dig_lt x i
    have hrl := HL.out (pre.map idx)
    have HSn := Lib.hid (dvA_snoc x d (pre.map idx) i)
    obtain ⟨S, hSe⟩ : ∃ S, dvA x d (pre.map idx) = S := ⟨_, rfl⟩
    rw [hSe] at h1 h3 hrl HSn
    obtain ⟨r, hr⟩ : ∃ r, S.1 = r := ⟨_, rfl⟩
    unfold dvF at HSn
    rw [hr] at h3 hrl HSn
    obtain ⟨e, he⟩ : ∃ e, dig x i = e := ⟨_, rfl⟩
    rw [he] at hel HSn ⊢
    obtain ⟨q, hq⟩ : ∃ q, (r * 1000000000 + e) / d = q := ⟨_, rfl⟩
    obtain ⟨r', hr'⟩ : ∃ r', (r * 1000000000 + e) % d = r' := ⟨_, rfl⟩
    rw [hq, hr'] at HSn
    have hqi : ((r : Int) * 1000000000 + (e : Int)) / (d : Int) = (q : Int) := by rw [← hq]; simp
    have hri : ((r : Int) * 1000000000 + (e : Int)) % (d : Int) = (r' : Int) := by rw [← hr']; simp
    have K0 := Lib.hid h0
    have K1 := Lib.hid h1
    have K2 := Lib.hid h2
    have K3 := Lib.hid h3
    have KB := Lib.hid hB
    have c0 := h0.cell
    have c2 := h2.cell
    have c3 := h3.cell
    have f3 := h3.frozen
    have hcl := h1.cell i (by rw [listF_length]; exact hi)
    have hfz := h1.frozen i
    have hi2 : (i : Int) < n := by omega
    have hd2 : (0 : Int) < d := by omega
    have hdz : ((d : Int) == 0) = false := by simp; omega
    have hmx : Tryd.prog.follows .mixedOrders = true := by kernel_rfl
    clear hie hz hSe hr he hq hr' h0 h1 h2 h3 hB
    gi_wp2
    have K0a := Lib.hid (K0.out.other (B' := h + 1 + 1 + 1) (by omega) (.int .i64 ((r : Int) * 1000000000 + (e : Int))))
    have K1a := Lib.hid (K1.out.other (setCell_grown W (h + 1 + 1 + 1) 0 (.int .i64 ((r : Int) * 1000000000 + (e : Int)))) (fun k k' e1 e2 => by
      have h3 : h + 1 = k := by simpa [Value.ownBlock] using e1
      have h4 : h + 1 + 1 + 1 = k' := by simpa using e2
      omega))
    have K2a := Lib.hid (K2.out.other (B' := h + 1 + 1 + 1) (by omega) (.int .i64 ((r : Int) * 1000000000 + (e : Int))))
    have K3a := Lib.hid (K3.out.set (.int .i64 ((r : Int) * 1000000000 + (e : Int))))
    have KBa := Lib.hid (KB.out.setCell (p := ⟨h + 1 + 1 + 1, 0, none⟩) (by simp; omega) (.int .i64 ((r : Int) * 1000000000 + (e : Int))))
    have KPa := Lib.hid (KpB.setCell (V := VL x) (a := a) (len := n) (Bs := h + 1 + 1 + 1 + 1) (n₀ := h) W (p := ⟨h + 1 + 1 + 1, 0, none⟩) (by simp; omega) (by simp) (fun b o e hl => by have := hab.out b o e hl; simp; omega) (.int .i64 ((r : Int) * 1000000000 + (e : Int))))
    have KOa := Lib.hid (KeepsOthers.setCell W ⟨h + 1 + 1 + 1, 0, none⟩ (.int .i64 ((r : Int) * 1000000000 + (e : Int))))
    generalize W.setCell ⟨h + 1 + 1 + 1, 0, none⟩ (.int .i64 ((r : Int) * 1000000000 + (e : Int))) = W1 at K0a K1a K2a K3a KBa KPa KOa ⊢
    clear c0 c2 c3 f3 hcl hfz
    have c0 := K0a.out.cell
    have c2 := K2a.out.cell
    have c3 := K3a.out.cell
    have f3 := K3a.out.frozen
    have hcl := K1a.out.cell i (by rw [listF_length]; exact hi)
    have hfz := K1a.out.frozen i
    have HO2 : Hid (OwnI (W1.setCell ⟨h + 1, i, none⟩ (.int .i64 q)) (h + 1) (.slice (some ⟨h + 1, 0, none⟩) n n) (listF n (fun j => if j = i then (q : Int) else S.2 j))) := by
      have h := K1a.out.set i (q : Int)
      rw [listF_set] at h
      exact h
    have E0 := Lib.hid ((K0a.out.kept (setCell_grown W1 (h + 1) i (.int .i64 q)) (fun e => by injection e with e; omega)).other (B' := h + 1 + 1 + 1) (by omega) (.int .i64 r'))
    have E1 := Lib.hid (HO2.out.other (setCell_grown _ (h + 1 + 1 + 1) 0 (.int .i64 r')) (fun k k' e1 e2 => by
      have h3 : h + 1 = k := by simpa [Value.ownBlock] using e1
      have h4 : h + 1 + 1 + 1 = k' := by simpa using e2
      omega))
    have E2 := Lib.hid ((K2a.out.kept (setCell_grown W1 (h + 1) i (.int .i64 q)) (fun e => by injection e with e; omega)).other (B' := h + 1 + 1 + 1) (by omega) (.int .i64 r'))
    have E3 := Lib.hid ((K3a.out.kept (setCell_grown W1 (h + 1) i (.int .i64 q)) (fun e => by injection e with e; omega)).set (.int .i64 r'))
    have EB := Lib.hid (((KBa.out.setCell (p := ⟨h + 1, i, none⟩) (by simp) (.int .i64 q)).setCell (p := ⟨h + 1 + 1 + 1, 0, none⟩) (by simp; omega) (.int .i64 r')).drew)
    have EP := Lib.hid ((KPa.out.trans (KpB.setCell _ (p := ⟨h + 1, i, none⟩) (by simp) (by simp; omega) (fun b o e hl => by have := hab.out b o e hl; simp; omega) (.int .i64 q))).trans (KpB.setCell _ (p := ⟨h + 1 + 1 + 1, 0, none⟩) (by simp; omega) (by simp) (fun b o e hl => by have := hab.out b o e hl; simp; omega) (.int .i64 r')))
    have EO := Lib.hid (((KOa.out.trans (KeepsOthers.setCell _ ⟨h + 1, i, none⟩ (.int .i64 q))).trans (KeepsOthers.setCell _ ⟨h + 1 + 1 + 1, 0, none⟩ (.int .i64 r'))).trans (KeepsOthers.drew _))
    have HE : Hid (∀ W' : World, W' = ((W1.setCell ⟨h + 1, i, none⟩ (.int .i64 q)).setCell ⟨h + 1 + 1 + 1, 0, none⟩ (.int .i64 r')).drew → (KeepsFrom W0.heap.size W W' ∧ KpB (VL x) a n (h + 1 + 1 + 1 + 1) h W W' ∧ (Boxed W' h 3 (.int .i64 d) ∧ OwnI W' (h + 1) (.slice (some ⟨h + 1, 0, none⟩) n n) (listF n (dvA x d ((pre ++ [z]).map idx)).2) ∧ Boxed W' (h + 1 + 1) 53 (.slice (some ⟨h + 1, 0, none⟩) n n) ∧ Boxed W' (h + 1 + 1 + 1) 3 (.int .i64 ((dvA x d ((pre ++ [z]).map idx)).1 : Nat))) ∧ Below h w W')) := by
      rintro W' rfl
      rw [hmap.out, HSn.out]
      exact ⟨EO.out.from _, ⟨EP.out.1.drew, EP.out.2.1, EP.out.2.2⟩, ⟨E0.out, E1.out, E2.out, E3.out⟩, EB.out⟩
    clear E0 E1 E2 E3 EB EP EO HO2
    gi_region_with_o (fail)
    all_goals gi_wp2
    all_goals exact HE.out _ rfl
  case done =>
    rintro D ys W hD hS ⟨⟨h0, h1, h2, h3⟩, hB⟩ hK
    obtain ⟨a1, a2⟩ := HA.out n (Nat.le_refl _)
    rw [Nat.sub_self, pw_zero, Nat.div_one] at a1
    rw [hS] at h1 h3
    rw [a1] at h3
    have e1 : listF n (dvA x d (descN n n)).2 = listF n (digF (x / d)) := listF_congr (fun j hj => by rw [a2 j hj, if_pos (by omega)])
    rw [e1] at h1
    have HT1 := Lib.hid (fun W' (hW : OwnI W' (h + 1) (.slice (some ⟨h + 1, 0, none⟩) n n) (listF n (digF (x / d)))) => impl_trimmedL (h + 1) n (x / d) n (h + 1) W' hW HT.out)
    have K1 := Lib.hid h1
    have K3 := Lib.hid h3
    have KB := Lib.hid hB
    have HK := Lib.hid hK
    have c2 := h2.cell
    have c3 := h3.cell
    have HDD := Lib.hid hD
    clear a1 a2 hS e1 h0 h1 h2 h3 hB hK hD
    gi_wp2
    gi_big_quiet_th ((gi_at_call 40; refine CallsIn.quiet_of_same (callsIn_wide.2 (HT1.out _ K1.out))))
    gi_wp2
    have hK' : (W.drewN nq).heap[D]? = some (.deferred (some [])) := HK.out
    refine ⟨by simp, .inl ⟨_, _, rfl, run_takeDeferred hK', ?_⟩⟩
    refine ⟨_, results_tmp2 rfl _ _ _, _, rfl, ?_, ?_⟩
    · rw [HH.out]
      exact OwnI.base (ownsRow_putObj (K1.out.trim HT.out) _ HK.out rfl) (Nat.le_succ h)
    · rw [HH.out]
      exact below_shut (W := W.drewN nq) (below_drewN KB.out nq) (by have := HDD.out; omega) (by have := KB.out.size; rw [HH.out] at this; exact this)
  case stop =>
    rintro D c pre W hD _ hf _
    exact hf.elim

end Go.Proofs.YtofmpfcbdemcnaaDoor
