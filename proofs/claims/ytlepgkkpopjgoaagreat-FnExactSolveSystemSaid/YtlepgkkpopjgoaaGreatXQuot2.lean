/- Quot2: Many Div DivLaw. -/
import Derived.Test.YtlepgkkpopjgoaaGreatXQuot
import Derived.Sort.CutIn
import Derived.Deep.RegionLaw
import Derived.Deep.RegionWith
import Derived.Stop.RegionWithIn
import Derived.Sort.QuietIn
import Derived.Sort.QuietTacIn
import Derived.Sort.BigQuietIn
import Derived.Test.YtlepgkkpopjgoaaGreatXSums
namespace Go.Proofs.YtlepgkkpopjgoaaGreat
set_option maxRecDepth 100000
set_option linter.unusedVariables false
set_option linter.unusedSimpArgs false
open Go.RowKit Go.Shelf Go.WideShapes
attribute [local go_sem] Oper.semAt_some wide_fn
set_option maxRecDepth 100000 in
set_option maxHeartbeats 4000000 in
theorem impl_divMany (va vb : Value) (x y n : Nat) (w : World) (ha : RowOf iV w va (limI x)) (hb : RowOf iV w vb (limI y)) (hxy : y ≤ x) (hx : nlen x ≤ 400) (hy : nlen y = n + 2) :
    Calls Tryz.prog 189 #[va, vb] w fun e w' => ∃ v0 v1, e = .returned (.tuple #[v0, v1]) ∧ OwnI w' w.heap.size v0 (limI (x / y)) ∧ OwnI w' w.heap.size v1 (limI (x % y)) ∧ Apart v0 v1 ∧ Below w.heap.size w w' := by
  have RA := Lib.hid ha
  have RB := Lib.hid hb
  obtain ⟨aa, ca, rfl, e1, e2, e3⟩ := ha
  obtain ⟨ab, cb, rfl, e4, e5, e6⟩ := hb
  clear e1 e2 e3 e4 e5 e6
  rw [limI_length] at RA RB ⊢
  rw [limI_length]
  have hmn : n + 2 ≤ nlen x := by rw [← hy]; exact nlen_mono hxy
  obtain ⟨b2, o2, rfl, ct⟩ := row_limb RB.out (k := n + 1) (by rw [hy]; omega)
  rw [hy] at RB ⊢
  obtain ⟨s, hs⟩ : ∃ s, s = 1000000000 / (dig y (n + 1) + 1) := ⟨_, rfl⟩
  obtain ⟨sv1, sv2, sv3, sv4⟩ := scaled hy hs
  have SV1 := Lib.hid sv1
  have SV2 := Lib.hid sv2
  have htl := dig_lt y (n + 1)
  obtain ⟨t, ht⟩ : ∃ t, dig y (n + 1) = t := ⟨_, rfl⟩
  rw [ht] at ct hs htl
  have hsi : (1000000000 : Int) / ((t : Int) + 1) = (s : Int) := by rw [hs]; simp
  have HL1 := Lib.hid (limI_one (s := s) (by omega) (by omega))
  have HY := Lib.hid hy
  have e1 : ((n : Int) + 2 - 1).toNat = n + 1 := by omega
  have htz : ((t : Int) + 1 == 0) = false := by simp; omega
  obtain ⟨m, hm⟩ : ∃ m, nlen x = m := ⟨_, rfl⟩
  rw [hm] at hx hmn RA ⊢
  have HM := Lib.hid hm
  clear ht hs sv2 hy hm
  -- the divisor, scaled
  obtain ⟨h, hh⟩ : ∃ h, w.heap.size = h := ⟨_, rfl⟩
  obtain ⟨vb, hvb⟩ : ∃ vb : Value, vb = .slice (some ⟨b2, o2, none⟩) (n + 2) cb := ⟨_, rfl⟩
  have ct0 : (w.alloc (.cells #[.slice (some ⟨b2, o2, none⟩) (n + 2) cb] 120)).cell? ⟨b2, o2 + (n + 1), none⟩ = some (.int .i64 t) := (World.cell?_alloc_some w _ _ (by rw [ct]; rfl)).trans ct
  have bA1 := (Below.refl w.heap.size w).alloc (Nat.le_refl _) (.cells #[.slice (some ⟨b2, o2, none⟩) (n + 2) cb] 120)
  have bA := bA1.alloc (by simp) (.cells #[.int .i64 s] 3)
  have T1 := impl_timesL (.slice (some ⟨b2, o2, none⟩) (n + 2) cb) (.slice (some ⟨h + 1, 0, none⟩) 1 1) y s (n + 2) ((w.alloc (.cells #[.slice (some ⟨b2, o2, none⟩) (n + 2) cb] 120)).alloc (.cells #[.int .i64 s] 3)) (rowOf_below RB.out bA)
    (by rw [HL1.out]; have := (OwnI.lit1 (w.alloc (.cells #[.slice (some ⟨b2, o2, none⟩) (n + 2) cb] 120)) 0 (s : Int) (Nat.zero_le _)).row; simp only [World.size_alloc, hh] at this; exact this) (by rw [HY.out]; omega) (by have := HL1.out; have e := congrArg List.length this; rw [limI_length] at e; simp at e; omega) (by have := (nlen_pos_iff (y * s)).1 (by rw [sv1]; omega); exact this) sv1
  have T2 := Lib.hid T1
  have BA := Lib.hid bA
  have B1 := Lib.hid ((Boxed.new w 120 (.slice (some ⟨b2, o2, none⟩) (n + 2) cb)).alloc (.cells #[.int .i64 s] 3))
  clear T1 bA bA1 ct sv1
  rw [hh] at B1 BA
  have HH := Lib.hid hh
  refine (callsIn_wide (n := 3)).1 ?_
  refine callsIn_of_wp_marks Tryz.func189 rfl trivial ?_ rfl
  simp only [Tryz.ntmps189, List.size_toArray, List.length_cons, List.length_nil, Nat.reduceAdd, Nat.reduceSub, Array.replicate_succ, Array.replicate_zero, List.push_toArray, List.append_toArray, List.nil_append, List.cons_append]
  refine wpIn_wide.2 ?_
  go_upto_region 1 with fail
  go_cut [6] from 14 (fun q wc => q = .int .i64 s ∧ wc = w.alloc (.cells #[.slice (some ⟨b2, o2, none⟩) (n + 2) cb] 120))
  case first =>
    go_wp2_with fail
    go_meet
    exact ⟨by rw [hsi], rfl⟩
  obtain ⟨rfl, rfl⟩ := hcut
  clear ct0 hsi htz e1
  have hUy : 0 < y * s := by have := (nlen_pos_iff (y * s)).1 (by rw [SV1.out]; omega); exact this
  go_upto_region 2 with fail
  simp only [World.size_alloc, hh] at T2
  go_cut [7] from 22 (fun q wc => ∃ k d c : Nat, q = .pointer (some ⟨k, 0, none⟩) ∧ h + 1 < d ∧ d < k ∧ wc.heap.size = k + 1 ∧ Hid (Below h w wc) ∧ Hid (Boxed wc h 120 (.slice (some ⟨b2, o2, none⟩) (n + 2) cb)) ∧ Hid (Boxed wc k 120 (.slice (some ⟨d, 0, none⟩) (n + 2) c)) ∧ Hid (OwnI wc (h + 1) (.slice (some ⟨d, 0, none⟩) (n + 2) c) (limI (y * s))))
  case first =>
    go_wp2_with (go_at_call 144; refine T2.out.mono ?_; rintro e w' ⟨d, c, rfl, hd1, hd2, hO, hB⟩)
    go_meet
    have bb := (BA.out.trans (hB.mono (by omega))).alloc (B := h) (by omega) (.cells #[.slice (some ⟨d, 0, none⟩) (n + 2) c] 120)
    refine ⟨w'.heap.size, d, c, rfl, by omega, hd2, by simp, bb, ?_, Boxed.new _ _ _, (hO.alloc _).base (by omega)⟩
    exact Boxed.alloc (show Boxed w' h _ _ from (hB.block h (by omega)).trans B1.out) _
  obtain ⟨k, d, c, rfl, hd1, hd2, hS1, hB1, hb1, hk1, ho1⟩ := hcut
  clear T2 BA B1
  -- the rest, a place longer
  obtain ⟨N, hN⟩ : ∃ N, m + 1 = N := ⟨_, rfl⟩
  have hN2 : N ≤ m + 1 := by omega
  have hN3 : m + 1 ≤ N := by omega
  have hmk := make_limbs N (by omega) wc
  rw [← hN, show ((m + 1 : Nat) : Int) = (m : Int) + 1 by simp, hN, hS1] at hmk
  clear hN
  go_upto_region 3 with fail
  go_cut [8] from 26 (fun q wd => q = .pointer (some ⟨k + 1 + 1, 0, none⟩) ∧ wd.heap.size = k + 1 + 1 + 1 ∧ Hid (Below h w wd) ∧ Hid (Boxed wd h 120 (.slice (some ⟨b2, o2, none⟩) (n + 2) cb)) ∧ Hid (Boxed wd k 120 (.slice (some ⟨d, 0, none⟩) (n + 2) c)) ∧ Hid (OwnI wd (h + 1) (.slice (some ⟨d, 0, none⟩) (n + 2) c) (limI (y * s)))
     ∧ Hid (OwnI wd (k + 1) (.slice (some ⟨k + 1, 0, none⟩) N N) (listF N (fun _ => 0))) ∧ Hid (Boxed wd (k + 1 + 1) 120 (.slice (some ⟨k + 1, 0, none⟩) N N)))
  case first =>
    have Z := Lib.hid (zeroObj_own wc (k + 1) N (by omega) (by omega))
    rw [hS1] at Z
    go_wp2_with fail
    go_meet
    refine ⟨by simp [hS1], by simp [hS1], (hB1.out.alloc (by omega) _).alloc (by simp; omega) _, (hb1.out.alloc _).alloc _, (hk1.out.alloc _).alloc _, (ho1.out.alloc _).alloc _, Z.out.alloc _, ?_⟩
    have := Boxed.new (wc.alloc (zeroObj N)) 120 (.slice (some ⟨k + 1, 0, none⟩) N N)
    simp only [World.size_alloc, hS1] at this
    exact this
  obtain ⟨rfl, hS2, hB2, hb2, hk2, ho2, hr2, hrb2⟩ := hcut
  clear hB1 hb1 hk1 ho1 hmk hS1
  have hUx : 0 < x * s := Nat.mul_pos (by have := (nlen_pos_iff x).1 (by rw [HM.out]; omega); exact this) (by omega)
  have hUl : nlen (x * s) ≤ N := by have := nlen_scale HM.out sv4; omega
  have T3 : Hid (∀ W : World, Below (k + 1 + 1 + 1 + 1) (wc.alloc (.cells #[.int .i64 s] 3)) W → W.heap.size = k + 1 + 1 + 1 + 1 → Calls Tryz.prog 144 #[.slice aa m ca, .slice (some ⟨k + 1 + 1 + 1, 0, none⟩) 1 1] W fun e w' => ∃ d c, e = .returned (.slice (some ⟨d, 0, none⟩) (nlen (x * s)) c) ∧ k + 1 + 1 + 1 + 1 ≤ d ∧ d < w'.heap.size ∧ OwnI w' (k + 1 + 1 + 1 + 1) (.slice (some ⟨d, 0, none⟩) (nlen (x * s)) c) (limI (x * s)) ∧ Below (k + 1 + 1 + 1) wc w') := fun W hW hWS => by
    have b3 := ((Below.refl (k + 1 + 1 + 1) wc).alloc (by omega) (.cells #[.int .i64 s] 3)).trans (hW.mono (by omega))
    have bW := hB2.out.trans (b3.mono (by omega))
    have hl := ((OwnI.lit1 wc 0 (s : Int) (Nat.zero_le _)).below (by rw [World.size_alloc, hS2]; exact hW)).row
    rw [hS2, ← HL1.out] at hl
    have h1 := impl_timesL (.slice aa m ca) (.slice (some ⟨k + 1 + 1 + 1, 0, none⟩) 1 1) x s _ W (rowOf_below RA.out (by rw [HH.out]; exact bW)) hl (by rw [HM.out]; omega)
      (by have e := congrArg List.length HL1.out; rw [limI_length] at e; simp at e; omega) hUx rfl
    refine h1.mono ?_
    rintro e w' ⟨d, c, rfl, h1, h2, h3, h4⟩
    rw [hWS] at h1 h3 h4
    exact ⟨d, c, rfl, h1, h2, h3, b3.trans (h4.mono (by omega))⟩
  go_upto_region 4 with fail
  go_cut [] from 30 (fun wd => k + 1 + 1 + 1 < wd.heap.size ∧ Hid (Below h w wd) ∧ Hid (Boxed wd h 120 (.slice (some ⟨b2, o2, none⟩) (n + 2) cb)) ∧ Hid (Boxed wd k 120 (.slice (some ⟨d, 0, none⟩) (n + 2) c)) ∧ Hid (OwnI wd (h + 1) (.slice (some ⟨d, 0, none⟩) (n + 2) c) (limI (y * s)))
     ∧ Hid (OwnI wd (k + 1) (.slice (some ⟨k + 1, 0, none⟩) N N) (listF N (digF (x * s)))) ∧ Hid (Boxed wd (k + 1 + 1) 120 (.slice (some ⟨k + 1, 0, none⟩) N N)))
  case first =>
    have cr := hrb2.out.cell
    first
    | go_region_law (first
        | (refine step_copy_lim rfl (.tmp 30) (.tmp 34) rfl (k + 1) N (x * s) (k + 1) (k + 1 + 1 + 1 + 1) _ (by simp [Act.eval, Act.put]) (by simp [Act.eval, Act.put]) (hr2.out.below (hS2.symm ▸ q5)) q4 hUx hUl (by omega) (Nat.le_refl _) ?_; intro w5 q6 q7)
        | (go_simp; go_at_call 144; refine (T3.out _ (by first | exact Below.refl _ _ | exact (Below.refl _ _).drew) (by simp [hS2])).mono ?_; rintro e w4 ⟨d4, c4, rfl, q1, q3, q4, q5⟩; have cr4 := (q5.cell (p := ⟨k + 1 + 1, 0, none⟩) (by simp)).trans hrb2.out.cell))
    | fail
    all_goals go_wp2_with fail
    all_goals go_meet
    all_goals exact ⟨by have := q7.size; omega, below_grown1 (hB2.out.trans (q5.mono (by omega))) q7 (by omega) (by omega), boxed_apart (boxed_below hb2.out (hS2.symm ▸ q5)) q7 (by omega), boxed_apart (boxed_below hk2.out (hS2.symm ▸ q5)) q7 (by omega), (ho2.out.below (hS2.symm ▸ q5)).apart q7 (by omega), q6, boxed_apart (boxed_below hrb2.out (hS2.symm ▸ q5)) q7 (by omega)⟩
  obtain ⟨hS3, hB3, hb3, hk3, ho3, hr3, hrb3⟩ := hcut
  clear hB2 hb2 hk2 ho2 hr2 hrb2 T3 hS2
  obtain ⟨e, he⟩ : ∃ e, wc.heap.size = e := ⟨_, rfl⟩
  rw [he] at hS3
  obtain ⟨kq, hkq⟩ : ∃ kq, m - (n + 2) + 1 = kq := ⟨_, rfl⟩
  have hkq2 : kq + n + 1 = m := by omega
  have hmk := make_limbs kq (by omega) wc
  rw [show ((kq : Nat) : Int) = (m : Int) - ((n : Int) + 2) + 1 by omega, he] at hmk
  clear hkq
  go_upto_region 5 with fail
  go_cut [9] from 36 (fun q wd => q = .pointer (some ⟨e + 1, 0, none⟩) ∧ wd.heap.size = e + 1 + 1 ∧ Hid (Below h w wd) ∧ Hid (Boxed wd h 120 (.slice (some ⟨b2, o2, none⟩) (n + 2) cb)) ∧ Hid (Boxed wd k 120 (.slice (some ⟨d, 0, none⟩) (n + 2) c)) ∧ Hid (OwnI wd (h + 1) (.slice (some ⟨d, 0, none⟩) (n + 2) c) (limI (y * s)))
     ∧ Hid (OwnI wd (k + 1) (.slice (some ⟨k + 1, 0, none⟩) N N) (listF N (digF (x * s)))) ∧ Hid (Boxed wd (k + 1 + 1) 120 (.slice (some ⟨k + 1, 0, none⟩) N N)) ∧ Hid (OwnI wd e (.slice (some ⟨e, 0, none⟩) kq kq) (listF kq (fun _ => 0))) ∧ Hid (Boxed wd (e + 1) 120 (.slice (some ⟨e, 0, none⟩) kq kq)))
  case first =>
    have Z := Lib.hid (zeroObj_own wc e kq (by omega) (by omega))
    have cb3 := hb3.out.cell
    rw [he] at Z
    go_wp2_with fail
    go_meet
    refine ⟨by simp [he], by simp [he], (hB3.out.alloc (by omega) _).alloc (by simp; omega) _, (hb3.out.alloc _).alloc _, (hk3.out.alloc _).alloc _, (ho3.out.alloc _).alloc _, (hr3.out.alloc _).alloc _, (hrb3.out.alloc _).alloc _, Z.out.alloc _, ?_⟩
    have := Boxed.new (wc.alloc (zeroObj kq)) 120 (.slice (some ⟨e, 0, none⟩) kq kq)
    simp only [World.size_alloc, he] at this
    exact this
  obtain ⟨rfl, hS4, hB4, hb4, hk4, ho4, hr4, hrb4, hq4, hqb4⟩ := hcut
  clear hB3 hb3 hk3 ho3 hr3 hrb3 hmk he
  have cq4 := hqb4.out.cell
  go_wp2_with (go_at_call 148; refine ((callsIn_wide (n := 3)).1 (back_in Fence.wide _ trivial rfl _ _ _ _)).mono ?_; rintro e w' ⟨rfl, rfl⟩)
  obtain ⟨W0, hW0⟩ : ∃ W0, W0 = wc.alloc (.cells #[.slice (some ⟨e, 0, none⟩) kq kq] 120) := ⟨_, rfl⟩
  have st0 : DvB h d c k e n N kq b2 o2 cb (y * s) w (x * s) (fun _ => 0) W0 := by
    rw [hW0]
    exact ⟨hb4.out.alloc _, hk4.out.alloc _, ho4.out.alloc _, hr4.out.alloc _, hrb4.out.alloc _, hq4.out.alloc _, hqb4.out.alloc _, hB4.out.alloc (by omega) _, by simp [hS4]⟩
  have bx0 : Boxed W0 (e + 1 + 1) 120 (.slice (some ⟨e, 0, none⟩) kq kq) := by
    rw [hW0, ← hS4]
    exact Boxed.new _ _ _
  have bS : W0.heap.size = e + 1 + 1 + 1 := by rw [hW0]; simp [hS4]
  rw [← hW0]
  obtain ⟨v, hv⟩ : ∃ v, y * s = v := ⟨_, rfl⟩
  obtain ⟨U, hU⟩ : ∃ U, x * s = U := ⟨_, rfl⟩
  rw [hv] at SV1 SV2 hUy st0
  rw [hU] at st0 hUx hUl
  have BS := Lib.hid bS
  have HVV := Lib.hid hv
  have HUU := Lib.hid hU
  clear hv hU
  have ST0 := Lib.hid st0
  have BX0 := Lib.hid bx0
  clear hb4 hk4 ho4 hr4 hrb4 hq4 hqb4 hB4 cq4 hW0 hS4 st0 bx0 bS
  have HV := Lib.hid (fun l => show ∀ i, knA v n U (l ++ [i]) = _ from knA_snoc v n U l)
  refine (wpIn_wide (n := 3)).1 ?_
  refine wpIn_rangeFunc_ownG rfl (by omega) (gf := 174) (lb := #[.pointer (some ⟨e + 1 + 1, 0, none⟩)]) rfl trivial (enters_of Tryz.func174 (by kernel_rfl) rfl)
    (back_stops Fence.wide _ trivial rfl (by omega) (e + 1 + 1) h kq kq (some ⟨e, 0, none⟩) (fun _ _ => True) (by omega) W0 BX0.out.cell (rd_own ST0.out.oq)) (fun h k => KpB.trans h k) (KpB.putObj (by rw [BS.out]; omega) (by rw [BS.out]; omega) (fun b o e' hl => by injection e' with e'; injection e' with e' _ _; rw [BS.out]; omega)) (Below.refl _ _) (fun _ => rfl)
    (fun pre W => DvB h d c k e n N kq b2 o2 cb v w (knA v n U (pre.map idx)).1 (knA v n U (pre.map idx)).2 W)
    (fun _ _ _ => False)
    (by rw [BS.out]; exact DvB.own hd1 hd2 hS3 (fun s' : List (BackA kq (fun _ _ => True)) => (knA v n U (s'.map idx)).1) (fun s' => (knA v n U (s'.map idx)).2))
    (fun _ _ _ _ _ hs _ _ => hs)
    ST0.out
    (fun z => { tmps := List.toArray (Value.slice aa m ca :: (.slice (some ⟨b2, o2, none⟩) (n + 2) cb : Value) :: undef :: (.pointer (some ⟨h, 0, none⟩) : Value) :: (.slice none 0 0 : Value) :: (.slice none 0 0 : Value) :: (.int .i64 s : Value) :: (.pointer (some ⟨k, 0, none⟩) : Value) :: (.pointer (some ⟨k + 1 + 1, 0, none⟩) : Value) :: (.pointer (some ⟨e + 1, 0, none⟩) : Value) :: (.int .i64 (z.1.1 : Int) : Value) :: undef :: undef :: undef :: u14 :: u15 :: u16 :: u17 :: u18 :: u19 :: u20 :: u21 :: u22 :: u23 :: u24 :: u25 :: u26 :: u27 :: u28 :: u29 :: u30 :: u31 :: u32 :: u33 :: u34 :: u35 :: u36 :: u37 :: u38 :: u39 :: u40 :: u41 :: u42 :: (.slice (some ⟨e, 0, none⟩) kq kq : Value) :: (.func (.func 174) #[] #[.pointer (some ⟨e + 1 + 1, 0, none⟩)] : Value) :: (.int .i64 (z.1.1 : Int) : Value) :: (.int .i64 z.1.2 : Value) :: u47 :: u48 :: u49 :: u50 :: u51 :: u52 :: u53 :: u54 :: u55 :: u56 :: u57 :: u58 :: u59 :: u60 :: u61 :: u62 :: u63 :: u64 :: u65 :: u66 :: u67 :: u68 :: u69 :: u70 :: u71 :: u72 :: u73 :: u74 :: u75 :: u76 :: u77 :: u78 :: u79 :: u80 :: u81 :: u82 :: u83 :: u84 :: u85 :: u86 :: []), defers := [] }) ?assign ?body ?done ?stop
  case assign =>
    intro l z W K hK
    gi_wp2
    exact hK
  case body =>
    rintro l pre z W st _
    have hi := z.2.1
    have hmap : Hid ((pre ++ [z]).map idx = pre.map idx ++ [z.1.1]) := by unfold Hid; rw [List.map_append]; rfl
    have HSn := Lib.hid (HV.out (pre.map idx) z.1.1)
    obtain ⟨i, hie⟩ : ∃ i, z.1.1 = i := ⟨_, rfl⟩
    rw [hie] at hi hmap HSn ⊢
    obtain ⟨S, hSe⟩ : ∃ S, knA v n U (pre.map idx) = S := ⟨_, rfl⟩
    rw [hSe] at st HSn
    obtain ⟨R, hR⟩ : ∃ R, S.1 = R := ⟨_, rfl⟩
    obtain ⟨q, hq⟩ : ∃ q, S.2 = q := ⟨_, rfl⟩
    unfold knF at HSn
    rw [hR, hq] at st HSn
    clear hie hSe hR hq
    obtain ⟨P, hP⟩ : ∃ P, R / pw i % pw (n + 3) = P := ⟨_, rfl⟩
    have hPl : P < pw (n + 3) := by rw [← hP]; exact Nat.mod_lt _ (pw_pos _)
    obtain ⟨g, hg⟩ : ∃ g, P / pw n / (v / pw n) = g := ⟨_, rfl⟩
    have hil : i + (n + 3) ≤ N := by omega
    have ST := Lib.hid st
    have HG : Hid (∀ W' : World, Below W.heap.size W W' → CallsIn Fence.wide 0 Tryz.prog 195 #[.slice (some ⟨k + 1, i, none⟩) (n + 3) (N - i), .slice (some ⟨d, 0, none⟩) (n + 2) c] W' fun e' w' => e' = .returned (.int .i64 (g : Int)) ∧ g < 2000000000 ∧ ∃ j, w' = W'.drewN j) := fun W' hW => by
      have := impl_guess (.slice (some ⟨k + 1, i, none⟩) (n + 3) (N - i)) (.slice (some ⟨d, 0, none⟩) (n + 2) c) P v n W' (rowOf_below (hP ▸ part_row st.or hil) hW) (rowOf_below st.od.row hW) SV1.out hPl SV2.out (by omega)
      rw [hg] at this
      exact callsIn_wide.2 this
    have c3 := st.bb.cell
    have c7 := st.bd.cell
    have c8 := st.br.cell
    have c9 := st.bq.cell
    have HP := Lib.hid hP
    have HGG := Lib.hid hg
    clear hP hg st
    have e1 : ((i : Int) + ((n : Int) + 2) + 1 - (i : Int)).toNat = n + 3 := by omega
    gi_upto_region 8 with fail
    gi_cut [11] from 47 (fun q8 wd => q8 = .slice (some ⟨k + 1, i, none⟩) (n + 3) (N - i) ∧ wd = W)
    case first =>
      gi_wp2_with fail
      gi_meet
      case rel => exact ⟨by rw [show i + (n + 2) + 1 - i = n + 3 by omega], rfl⟩
    obtain ⟨rfl, hwd⟩ := hcut
    rw [hwd]
    clear e1 c8 c3 hwd
    have FIN := Lib.hid (fun (W' : World) (st : DvB h d c k e n N kq b2 o2 cb v w (knR v n R i) (fun j => if j = i then (knQ v n R i : Int) else q j) W') (r : DvR h e W W') => show KeepsFrom W0.heap.size W W' ∧ KpB (fun _ _ => True) (some ⟨e, 0, none⟩) kq (e + 1 + 1) h W W' ∧ DvB h d c k e n N kq b2 o2 cb v w (knA v n U ((pre ++ [z]).map idx)).1 (knA v n U ((pre ++ [z]).map idx)).2 W' by
      rw [BS.out, hmap.out, HSn.out]
      exact ⟨r.kf, st.kp r, st⟩)
    clear ST0 BX0 HSn hmap HV
    gi_upto_region 9 with fail
    gi_cut [] from 55 (fun wd => Hid (DvB h d c k e n N kq b2 o2 cb v w R (fun j => if j = i then (g : Int) else q j) wd ∧ DvR h e W wd) ∧ g < 2000000000)
    case first =>
      have hcl := ST.out.oq.cell i (by rw [listF_length]; exact hi)
      have hfz := ST.out.oq.frozen i
      have hsz := ST.out.sz
      gi_region_with (gi_at_call 195; refine ((HG.out _ (by first | exact Below.refl _ _ | exact (Below.refl _ _).drew)).inRound l).mono ?_; rintro e' w' ⟨rfl, hg9, qq, rfl⟩)
      all_goals gi_wp2_with fail
      all_goals gi_meet
      all_goals exact ⟨⟨(ST.out.drewN (1 + qq)).dig hd1 hd2 hS3 i g, ((DvR.refl W).drewN (1 + qq)).grown (setCell_grown _ _ _ _) (by omega) (by omega) (show h ≤ W.heap.size by omega) (show e + 1 + 1 < W.heap.size by omega)⟩, hg9⟩
    obtain ⟨HD, hg9⟩ := hcut
    clear c7 c9 HG ST
    generalize wc = W1 at HD ⊢
    have hvl : Hid (v < pw (n + 3)) := by
      have h1 := lt_pw_nlen v
      rw [SV1.out] at h1
      exact Nat.lt_trans h1 (pw_lt (by omega))
    have HL : Hid (∀ W' : World, Below W1.heap.size W1 W' → CallsIn Fence.wide 0 Tryz.prog 196 #[.slice (some ⟨k + 1, i, none⟩) (n + 3) (N - i), .int .i64 (g : Int), .slice (some ⟨d, 0, none⟩) (n + 2) c] W' fun e' w' => e' = .returned (.bool (decide (P < g * v))) ∧ OwnI w' (k + 1) (.slice (some ⟨k + 1, 0, none⟩) N N) (listF N (digF (putN R i (n + 3) (lowP P g v (n + 3))))) ∧ W'.grownBy w' (some (k + 1))) := fun W' hW => by
      have := impl_lower (k + 1) N R i (n + 3) (N - i) g v (.slice (some ⟨d, 0, none⟩) (n + 2) c) (some ⟨d, 0, none⟩) (n + 2) c (k + 1) W' (HD.out.1.or.below hW) hil (by omega) rfl (rowOf_below HD.out.1.od.row hW) (fun b o e' => by injection e' with e'; injection e' with e' _ _; omega) hvl.out hg9
      rw [HP.out] at this
      exact callsIn_wide.2 this
    have c7 := HD.out.1.bd.cell
    have c9 := HD.out.1.bq.cell
    gi_upto_region 10 with fail
    gi_cut [67] from 61 (fun q67 wd => q67 = .bool (decide (P < g * v)) ∧ Hid (DvB h d c k e n N kq b2 o2 cb v w (putN R i (n + 3) (lowP P g v (n + 3))) (fun j => if j = i then (g : Int) else q j) wd ∧ DvR h e W wd))
    case first =>
      have hsz := HD.out.1.sz
      have hcl : W1.cell? ⟨e, i, none⟩ = some (.int .i64 (g : Int)) := by
        have := HD.out.1.oq.cell i (by rw [listF_length]; exact hi)
        rw [listF_get] at this
        simpa using this
      gi_region_with (gi_at_call 196; refine ((HL.out _ (by first | exact Below.refl _ _ | exact (Below.refl _ _).drew)).inRound l).mono ?_; rintro e' w' ⟨rfl, ho9, hg10⟩)
      all_goals gi_wp2_with fail
      all_goals gi_meet
      all_goals exact ⟨rfl, HD.out.1.drew.row hd1 hd2 hS3 ho9 hg10, HD.out.2.drew.grown hg10 (by omega) (by omega) (show h ≤ W1.heap.size by omega) (show e + 1 + 1 < W1.heap.size by omega)⟩
    obtain ⟨rfl, HE⟩ := hcut
    clear c7 c9 HL HD
    generalize wc = W2 at HE ⊢
    have c7 := HE.out.1.bd.cell
    by_cases hb : P < g * v
    · have HR : Hid (∀ W' : World, Below W2.heap.size W2 W' → CallsIn Fence.wide 0 Tryz.prog 197 #[.slice (some ⟨k + 1, i, none⟩) (n + 3) (N - i), .slice (some ⟨d, 0, none⟩) (n + 2) c] W' fun e' w' => (∃ r, e' = .returned r) ∧ OwnI w' (k + 1) (.slice (some ⟨k + 1, 0, none⟩) N N) (listF N (digF (knR v n R i))) ∧ W'.grownBy w' (some (k + 1))) := fun W' hW => by
        have := impl_raise (k + 1) N (putN R i (n + 3) (lowP P g v (n + 3))) i (n + 3) (N - i) v (.slice (some ⟨d, 0, none⟩) (n + 2) c) (some ⟨d, 0, none⟩) (n + 2) c (k + 1) W' (HE.out.1.or.below hW) hil (by omega) rfl (rowOf_below HE.out.1.od.row hW) (fun b o e' => by injection e' with e'; injection e' with e' _ _; omega)
        rw [kn_raised, ← (kn_hi HP.out HGG.out hb).2] at this
        exact callsIn_wide.2 this
      have HQ := Lib.hid (kn_hi HP.out HGG.out hb).1
      have hg0 : 0 < g := by
        rcases Nat.eq_zero_or_pos g with h0 | h0
        · rw [h0, Nat.zero_mul] at hb; omega
        · exact h0
      have hdb : decide (P < g * v) = true := decide_eq_true hb
      have hsz := HE.out.1.sz
      rw [hdb]
      clear hdb hb
      gi_upto_region 11 with fail
      gi_cut [] from 68 (fun wd => Hid (DvB h d c k e n N kq b2 o2 cb v w (knR v n R i) (fun j => if j = i then (g : Int) else q j) wd ∧ DvR h e W wd))
      case first =>
        gi_wp2_with (gi_at_call 197; refine ((HR.out _ (by first | exact Below.refl _ _ | exact (Below.refl _ _).drew)).inRound l).mono ?_; rintro e' w' ⟨⟨u9, rfl⟩, ho9, hg10⟩)
        gi_meet
        exact ⟨HE.out.1.row hd1 hd2 hS3 ho9 hg10, HE.out.2.grown hg10 (by omega) (by omega) (by omega) (by omega)⟩
      generalize wc = W3 at hcut ⊢
      have hsz3 := hcut.out.1.sz
      have c9 := hcut.out.1.bq.cell
      have hcl : W3.cell? ⟨e, i, none⟩ = some (.int .i64 (g : Int)) := by
        have := hcut.out.1.oq.cell i (by rw [listF_length]; exact hi)
        rw [listF_get] at this
        simpa using this
      have hfz := hcut.out.1.oq.frozen i
      have FB := hcut.out.1.dig hd1 hd2 hS3 i ((g : Int) - 1)
      rw [kn_twice, show (g : Int) - 1 = ((g - 1 : Nat) : Int) by omega, ← HQ.out] at FB
      have FB2 := Lib.hid (FIN.out _ FB (hcut.out.2.grown (setCell_grown _ _ _ _) (by omega) (by omega) (by omega) (by omega)))
      rw [HQ.out, show ((g - 1 : Nat) : Int) = (g : Int) - 1 by omega] at FB2
      clear FB
      gi_wp2
      exact FB2.out
    · have HQ := Lib.hid (kn_lo HP.out HGG.out hb)
      have hdb : decide (P < g * v) = false := decide_eq_false hb
      rw [hdb]
      clear hdb hb
      have hst := HE.out
      rw [← HQ.out.2, ← HQ.out.1] at hst
      have FB2 := Lib.hid (FIN.out _ hst.1 hst.2)
      clear hst
      gi_wp2
      exact FB2.out
  case done =>
    rintro D ys W hD hS st hK
    have hs0 : 0 < s := by omega
    have hUv : U < v * pw kq := by
      rw [← HUU.out, ← HVV.out]
      have h1 : x < pw (n + 1) * pw kq := by rw [← pw_add, show n + 1 + kq = m by omega, ← HM.out]; exact lt_pw_nlen x
      have h2 : pw (n + 1) ≤ y := le_of_lt_nlen (by rw [HY.out]; omega)
      calc x * s < pw (n + 1) * pw kq * s := Nat.mul_lt_mul_of_pos_right h1 hs0
        _ ≤ y * pw kq * s := Nat.mul_le_mul_right _ (Nat.mul_le_mul_right _ h2)
        _ = y * s * pw kq := by rw [Nat.mul_right_comm]
    have hq1 : U / v = x / y := by rw [← HUU.out, ← HVV.out]; exact Nat.mul_div_mul_right _ _ hs0
    have hr1 : U % v / s = x % y := by rw [← HUU.out, ← HVV.out, Nat.mul_mod_mul_right]; exact Nat.mul_div_cancel _ hs0
    obtain ⟨a1, a2⟩ := knA_desc v n U kq SV1.out hUv kq (Nat.le_refl _)
    rw [Nat.sub_self] at a1 a2
    rw [pw_zero, Nat.mul_one] at a1
    rw [hS, a1] at st
    have oq := st.oq
    rw [show listF kq (knA v n U (descN kq kq)).2 = listF kq (digF (U / v)) from listF_congr (fun j hj => by rw [a2 j hj, if_pos (Nat.zero_le _)])] at oq
    have hlr : nlen (U % v) ≤ N := Nat.le_trans (nlen_mono (Nat.mod_le _ _)) hUl
    have hlq : nlen (U / v) ≤ kq := by
      rw [nlen_le_iff]
      exact Nat.div_lt_of_lt_mul hUv
    have T1 := Lib.hid (impl_trimmedL (k + 1) N (U % v) N (k + 1) W st.or hlr)
    have T2 := Lib.hid (impl_divInt (.slice (some ⟨k + 1, 0, none⟩) (nlen (U % v)) N) (U % v) s W ((st.or.trim hlr).row) hs0 (by omega) (by omega))
    rw [hr1] at T2
    have T3 := Lib.hid (fun (W' : World) (hW : Below W.heap.size W W') => impl_trimmedL e kq (U / v) kq e W' (oq.below hW) hlq)
    have OQ := Lib.hid (oq.trim hlq)
    rw [hq1] at OQ
    have c8 := st.br.cell
    have c9 := st.bq.cell
    have hsz := st.sz
    have HDD := Lib.hid hD
    have HK := Lib.hid hK
    have SBL := Lib.hid st.bl
    have SBQ := Lib.hid st.bq
    clear a1 a2 hS hUv hr1 hD hK oq st hlr hlq
    rw [hq1] at T3
    clear hq1
    generalize nlen (U % v) = Lr at T1 T2
    obtain ⟨Lq, hLq⟩ : ∃ Lq, nlen (x / y) = Lq := ⟨_, rfl⟩
    rw [hLq] at T3 OQ
    clear hLq
    go_upto_region 14 with (first
      | (go_at_call 188; refine T2.out.mono ?_; rintro e' w9 ⟨v1, rfl, ho9, hb9⟩)
      | (go_at_call 168; refine T1.out.mono ?_; rintro e' w' ⟨rfl, hw⟩; obtain rfl := hw.symm))
    have c99 := (hb9.cell (p := ⟨e + 1, 0, none⟩) (by simp; omega)).trans c9
    clear T1 T2 c8 c9
    go_wp2_with (go_at_call 168; refine (T3.out _ hb9).mono ?_; rintro e' w' ⟨rfl, hw⟩; obtain rfl := hw.symm)
    have hD' : D < W.heap.size := (Array.getElem?_eq_some_iff.1 HK.out).1
    have hK' : w9.heap[D]? = some (.deferred (some [])) := (hb9.block D hD').trans HK.out
    have hDe : e + 1 + 1 + 1 ≤ D := by rw [← BS.out]; exact HDD.out
    refine ⟨by simp, .inl ⟨_, _, rfl, run_takeDeferred hK', ?_⟩⟩
    refine ⟨_, results_tmp2 rfl _ _ _, _, _, rfl, ?_, ?_, ?_, ?_⟩
    · rw [HH.out]
      exact OwnI.base (ownsRow_putObj (OQ.out.below hb9) _ hK' rfl) (by omega)
    · rw [HH.out]
      exact OwnI.base (ownsRow_putObj ho9 _ hK' rfl) (by omega)
    · intro a b h1 h2
      have h1 : e = a := by simpa [Value.ownBlock] using h1
      have h3 := World.ownsRow.lt ho9 b h2
      omega
    · rw [HH.out]
      exact below_shut (SBL.out.trans (hb9.mono (by omega))) (by omega) (by have := hb9.size; omega)
  case stop =>
    rintro D c pre W hD _ hf _
    exact hf.elim
end Go.Proofs.YtlepgkkpopjgoaaGreat
namespace Go.Proofs.YtlepgkkpopjgoaaGreat
set_option maxRecDepth 100000
set_option linter.unusedVariables false
set_option linter.unusedSimpArgs false
open Go.RowKit
theorem apart_of {w1 w2 : World} {B : Nat} {v0 v1 : Value} {l l' : List Int} (h0 : OwnI w1 B v0 l) (h1 : OwnI w2 w1.heap.size v1 l') : Apart v0 v1 := fun a b e1 e2 => by
 have h2 := World.ownsRow.lt h0 a e1
 have h3 := World.ownsRow.lt h1 b e2
 omega
theorem one_limb {y : Nat} (h : nlen y = 1) : dig y 0 = y ∧ y < 1000000000 := by
 have h1 := lt_pw_nlen y
 rw [h, pw_one] at h1
 refine ⟨?_, h1⟩
 unfold dig
 rw [pw_zero, Nat.div_one, Nat.mod_eq_of_lt h1]
set_option maxHeartbeats 1000000 in
theorem spec_divOne (va vb : Value) (x y : Nat) (w : World) (ha : RowOf iV w va (limI x)) (hb : RowOf iV w vb (limI y)) (hy0 : 0 < y) (hx : nlen x ≤ 400) (h1 : nlen y = 1) :
  Calls Tryz.prog 158 #[va, vb] w fun e w' => ∃ v0 v1, e = .returned (.tuple #[v0, v1]) ∧ OwnI w' w.heap.size v0 (limI (x / y)) ∧ OwnI w' w.heap.size v1 (limI (x % y)) ∧ Apart v0 v1 ∧ Below w.heap.size w w' := by
 obtain ⟨hd, hy9⟩ := one_limb h1
 have T1 := Lib.hid (spec_small va x y w ha hy0 hy9 (by omega))
 have hm : x % y ≤ 9223372036854775807 := by have := Nat.mod_lt x hy0; omega
 have T2 := Lib.hid (fun (W' : World) => spec_natOf_nat (x % y) W' hm)
 have RB := Lib.hid hb
 obtain ⟨aa, ca, rfl, e1, e2, e3⟩ := ha
 obtain ⟨ab, cb, rfl, e4, e5, e6⟩ := hb
 clear e1 e2 e3 e4 e5 e6
 rw [limI_length] at T1 ⊢
 rw [limI_length] at RB ⊢
 rw [h1] at RB ⊢
 obtain ⟨bb, ob, rfl, cx⟩ := row_limb RB.out (k := 0) (by omega)
 rw [hd, Nat.add_zero] at cx
 have hbb : (⟨bb, ob, none⟩ : Addr).block < w.heap.size := World.block_lt_of_cell? w _ cx
 go_enter Tryz.func158, Tryz.ntmps158
 go_wp2_with (first
   | (go_at_call 179; refine (T1.out).mono ?_; rintro e w2 ⟨v0, rfl, o0, b2⟩)
   | (go_at_call 156; refine (T2.out _).mono ?_; rintro e w3 ⟨v1, rfl, o1, b3⟩))
 go_ret2
 exact ⟨_, _, rfl, o0.below b3, o1.base b2.size, apart_of o0 o1, b2.trans (b3.mono b2.size)⟩
theorem spec_div (va vb : Value) (x y : Nat) (w : World) (ha : RowOf iV w va (limI x)) (hb : RowOf iV w vb (limI y)) (hy0 : 0 < y) (hx : nlen x ≤ 400) (hy : nlen y ≤ 400) :
  Calls Tryz.prog 158 #[va, vb] w fun e w' => ∃ v0 v1, e = .returned (.tuple #[v0, v1]) ∧ OwnI w' w.heap.size v0 (limI (x / y)) ∧ OwnI w' w.heap.size v1 (limI (x % y)) ∧ Apart v0 v1 ∧ Below w.heap.size w w' := by
 by_cases h1 : nlen y = 1
 ·exact spec_divOne va vb x y w ha hb hy0 hx h1
 ·exact spec_divMany va vb x y w ha hb hy0 hx hy h1
set_option maxHeartbeats 1000000 in
theorem impl_divOne (va vb : Value) (x y : Nat) (w : World) (ha : RowOf iV w va (limI x)) (hb : RowOf iV w vb (limI y)) (hy0 : 0 < y) (hx : nlen x ≤ 400) (h1 : nlen y = 1) (hxy : y ≤ x) :
  Calls Tryz.prog 171 #[va, vb] w fun e w' => ∃ v0 v1, e = .returned (.tuple #[v0, v1]) ∧ OwnI w' w.heap.size v0 (limI (x / y)) ∧ OwnI w' w.heap.size v1 (limI (x % y)) ∧ Apart v0 v1 ∧ Below w.heap.size w w' := by
 obtain ⟨hd, hy9⟩ := one_limb h1
 have T0 := Lib.hid (impl_compare va vb x y w ha hb (by omega) (by omega))
 have hc : cmpN x y = 0 ∨ cmpN x y = 1 := by unfold cmpN; split <;> (try split) <;> omega
 have T1 := Lib.hid (fun (W' : World) (hW : Below w.heap.size w W') => impl_divInt va x y W' (rowOf_below ha hW) hy0 hy9 (by omega))
 have hm : x % y ≤ 9223372036854775807 := by have := Nat.mod_lt x hy0; omega
 have T2 := Lib.hid (fun (W' : World) => impl_limbsOf_nat (x % y) W' hm)
 have RB := Lib.hid hb
 obtain ⟨aa, ca, rfl, e1, e2, e3⟩ := ha
 obtain ⟨ab, cb, rfl, e4, e5, e6⟩ := hb
 clear e1 e2 e3 e4 e5 e6
 rw [limI_length] at T1 T0 ⊢
 rw [limI_length] at RB T0 ⊢
 rw [h1] at RB T0 ⊢
 obtain ⟨bb, ob, rfl, cx⟩ := row_limb RB.out (k := 0) (by omega)
 rw [hd, Nat.add_zero] at cx
 have hbb : (⟨bb, ob, none⟩ : Addr).block < w.heap.size := World.block_lt_of_cell? w _ cx
 rcases hc with hc | hc
 ·have T0 := T0.out
  rw [hc] at T0
  have T0 := Lib.hid T0
  go_enter Tryz.func171, Tryz.ntmps171
  go_wp2_with (first
    | (go_at_call 111; refine T0.out.mono ?_; rintro e w1 ⟨rfl, b1⟩; have cx1 := (b1.cell (p := ⟨bb, ob, none⟩) hbb).trans cx)
    | (go_at_call 188; refine (T1.out _ b1).mono ?_; rintro e w2 ⟨v0, rfl, o0, b2⟩)
    | (go_at_call 142; refine (T2.out _).mono ?_; rintro e w3 ⟨v1, rfl, o1, b3⟩))
  go_ret2
  exact ⟨_, _, rfl, (o0.base b1.size).below b3, o1.base (Nat.le_trans b1.size b2.size), apart_of o0 o1, (b1.trans (b2.mono b1.size)).trans (b3.mono (Nat.le_trans b1.size b2.size))⟩
 ·have T0 := T0.out
  rw [hc] at T0
  have T0 := Lib.hid T0
  go_enter Tryz.func171, Tryz.ntmps171
  go_wp2_with (first
    | (go_at_call 111; refine T0.out.mono ?_; rintro e w1 ⟨rfl, b1⟩; have cx1 := (b1.cell (p := ⟨bb, ob, none⟩) hbb).trans cx)
    | (go_at_call 188; refine (T1.out _ b1).mono ?_; rintro e w2 ⟨v0, rfl, o0, b2⟩)
    | (go_at_call 142; refine (T2.out _).mono ?_; rintro e w3 ⟨v1, rfl, o1, b3⟩))
  go_ret2
  exact ⟨_, _, rfl, (o0.base b1.size).below b3, o1.base (Nat.le_trans b1.size b2.size), apart_of o0 o1, (b1.trans (b2.mono b1.size)).trans (b3.mono (Nat.le_trans b1.size b2.size))⟩
set_option maxHeartbeats 1000000 in
theorem impl_divLess (va vb : Value) (x y : Nat) (w : World) (ha : RowOf iV w va (limI x)) (hb : RowOf iV w vb (limI y)) (hx : nlen x ≤ 400) (hy : nlen y ≤ 400) (hxy : x < y) :
  Calls Tryz.prog 171 #[va, vb] w fun e w' => ∃ v0 v1, e = .returned (.tuple #[v0, v1]) ∧ OwnI w' w.heap.size v0 (limI (x / y)) ∧ OwnI w' w.heap.size v1 (limI (x % y)) ∧ Apart v0 v1 ∧ Below w.heap.size w w' := by
 have T0 := impl_compare va vb x y w ha hb (by omega) (by omega)
 rw [cmpN_lt hxy] at T0
 have T1 := Lib.hid (fun (W' : World) (hW : Below w.heap.size w W') => impl_clone va x W' (rowOf_below ha hW) (by omega))
 obtain ⟨aa, ca, rfl, e1, e2, e3⟩ := ha
 obtain ⟨ab, cb, rfl, e4, e5, e6⟩ := hb
 clear e1 e2 e3 e4 e5 e6
 rw [Nat.div_eq_of_lt hxy, Nat.mod_eq_of_lt hxy, limI_zero]
 rw [limI_length] at T0 T1 ⊢
 rw [limI_length] at T0 ⊢
 have T0 := Lib.hid T0
 go_enter Tryz.func171, Tryz.ntmps171
 go_wp2_with (first
   | (go_at_call 111; refine T0.out.mono ?_; rintro e w1 ⟨rfl, b1⟩)
   | (go_at_call 170; refine (T1.out _ b1).mono ?_; rintro e w2 ⟨v1, rfl, o1, b2⟩))
 go_ret2
 exact ⟨_, _, rfl, OwnI.nil _ _, o1.base b1.size, Apart.nil _, b1.trans (b2.mono b1.size)⟩
set_option maxHeartbeats 1000000 in
theorem impl_divMore (va vb : Value) (x y n : Nat) (w : World) (ha : RowOf iV w va (limI x)) (hb : RowOf iV w vb (limI y)) (hx : nlen x ≤ 400) (hy : nlen y = n + 2) (hxy : y ≤ x) :
  Calls Tryz.prog 171 #[va, vb] w fun e w' => ∃ v0 v1, e = .returned (.tuple #[v0, v1]) ∧ OwnI w' w.heap.size v0 (limI (x / y)) ∧ OwnI w' w.heap.size v1 (limI (x % y)) ∧ Apart v0 v1 ∧ Below w.heap.size w w' := by
 have hmn : n + 2 ≤ nlen x := by rw [← hy]; exact nlen_mono hxy
 have T0 := Lib.hid (impl_compare va vb x y w ha hb (by omega) (by omega))
 have hc : cmpN x y = 0 ∨ cmpN x y = 1 := by unfold cmpN; split <;> (try split) <;> omega
 have T1 := Lib.hid (fun (W' : World) (hW : Below w.heap.size w W') => impl_divMany va vb x y n W' (rowOf_below ha hW) (rowOf_below hb hW) hxy hx hy)
 obtain ⟨aa, ca, rfl, e1, e2, e3⟩ := ha
 obtain ⟨ab, cb, rfl, e4, e5, e6⟩ := hb
 clear e1 e2 e3 e4 e5 e6
 rw [limI_length] at T0 T1 ⊢
 rw [limI_length] at T0 T1 ⊢
 rw [hy] at T0 T1 ⊢
 have hz : ((n : Int) + 2 == 1) = false := by simp; omega
 clear hy hmn
 rcases hc with hc | hc
 ·have T0 := T0.out
  rw [hc] at T0
  have T0 := Lib.hid T0
  clear hc
  go_enter Tryz.func171, Tryz.ntmps171
  go_wp2_with (first
   | (go_at_call 111; refine T0.out.mono ?_; rintro e w1 ⟨rfl, b1⟩)
   | (go_at_call 189; refine (T1.out _ b1).mono ?_; rintro e w2 ⟨v0, v1, rfl, o0, o1, ap, b2⟩))
  go_ret2
  exact ⟨_, _, rfl, o0.base b1.size, o1.base b1.size, ap, b1.trans (b2.mono b1.size)⟩
 ·have T0 := T0.out
  rw [hc] at T0
  have T0 := Lib.hid T0
  clear hc
  go_enter Tryz.func171, Tryz.ntmps171
  go_wp2_with (first
   | (go_at_call 111; refine T0.out.mono ?_; rintro e w1 ⟨rfl, b1⟩)
   | (go_at_call 189; refine (T1.out _ b1).mono ?_; rintro e w2 ⟨v0, v1, rfl, o0, o1, ap, b2⟩))
  go_ret2
  exact ⟨_, _, rfl, o0.base b1.size, o1.base b1.size, ap, b1.trans (b2.mono b1.size)⟩
theorem impl_divide (va vb : Value) (x y : Nat) (w : World) (ha : RowOf iV w va (limI x)) (hb : RowOf iV w vb (limI y)) (hy0 : 0 < y) (hx : nlen x ≤ 400) (hy : nlen y ≤ 400) :
  Calls Tryz.prog 171 #[va, vb] w fun e w' => ∃ v0 v1, e = .returned (.tuple #[v0, v1]) ∧ OwnI w' w.heap.size v0 (limI (x / y)) ∧ OwnI w' w.heap.size v1 (limI (x % y)) ∧ Apart v0 v1 ∧ Below w.heap.size w w' := by
 by_cases hxy : x < y
 ·exact impl_divLess va vb x y w ha hb hx hy hxy
 ·by_cases h1 : nlen y = 1
  ·exact impl_divOne va vb x y w ha hb hy0 hx h1 (by omega)
  ·have h2 := (nlen_pos_iff y).2 hy0
   exact impl_divMore va vb x y (nlen y - 2) w ha hb hx (by omega) (by omega)
end Go.Proofs.YtlepgkkpopjgoaaGreat
namespace Go.Proofs.YtlepgkkpopjgoaaGreat
set_option maxRecDepth 100000
set_option linter.unusedVariables false
set_option linter.unusedSimpArgs false
open Go.RowKit
end Go.Proofs.YtlepgkkpopjgoaaGreat
