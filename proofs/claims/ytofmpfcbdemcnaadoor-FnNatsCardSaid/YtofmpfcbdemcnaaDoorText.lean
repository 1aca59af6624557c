/- text of the program: the decimal digits of a natural number. -/
import Derived.Test.YtofmpfcbdemcnaaDoorFmtNat
import Derived.Test.YtofmpfcbdemcnaaDoorJoin2
import Derived.Sort.CutIn
import Derived.Sort.QuietIn
import Derived.Sort.QuietTacIn
import Derived.Sort.BigQuietIn
import Derived.Stop.RegionWithIn
import Derived.Deep.RegionHeld3
namespace Go.Proofs.YtofmpfcbdemcnaaDoor
open Go.RowKit Go.Shelf

set_option maxRecDepth 100000
theorem wide_fn' (f : Nat) : Fence.wide.fn f = True := rfl
attribute [local go_sem] Oper.semAt_some wide_fn'

/-- the parts down to place n - k -/
def partsT (x n : Nat) (l : List Nat) : List ByteArray := decT (x / pw n) :: l.map (fun i => padN9 (dig x i))
theorem partsT_snoc (x n : Nat) (l : List Nat) (i : Nat) : partsT x n (l ++ [i]) = partsT x n l ++ [padN9 (dig x i)] := by simp [partsT]
theorem partsT_len (x n : Nat) (l : List Nat) : (partsT x n l).length = l.length + 1 := by simp [partsT]
theorem parts_flat (x n : Nat) (h : pw n ≤ x) : ∀ k, k ≤ n → ((partsT x n (descN n k)).map (·.data.toList)).flatten = Lib.decDigits (x / pw (n - k))
  | 0, _ => by rw [descN_zero, Nat.sub_zero]; simp [partsT, decT]
  | k + 1, hk => by
    obtain ⟨i, hi⟩ : ∃ i, n - 1 - k = i := ⟨_, rfl⟩
    have ih := parts_flat x n h k (by omega)
    rw [show n - k = i + 1 by omega] at ih
    rw [descN_succ, hi, partsT_snoc, List.map_append, List.flatten_append, ih, show n - (k + 1) = i by omega]
    have e := dec_step (x := x) (i := i) (Nat.div_pos (Nat.le_trans (pw_mono (by omega)) h) (pw_pos _))
    rw [e]
    simp [padN9]
theorem join_flat (xs : List (List UInt8)) : Lib.join xs [] = xs.flatten := by
  cases xs with
  | nil => rfl
  | cons y r =>
    rw [Lib.join_cons]
    simp [Lib.joinTail]
theorem parts_join (x n : Nat) (h : pw n ≤ x) : joinK (partsT x n (descN n n)) ⟨#[]⟩ (partsT x n (descN n n)).length = Lib.decDigits x := by
  rw [joinK_all, join_flat, parts_flat x n h n (Nat.le_refl _), Nat.sub_self, pw_zero, Nat.div_one]

theorem info_str : (Tryd.prog.info? 9).map (fun i => (i.zero, i.size, i.bytes)) = some (some (.string ⟨#[]⟩), 1, 16) := by kernel_rfl
theorem info_partsS {o : Option TypeInfo} (h : o.map (fun i => (i.zero, i.size, i.bytes)) = some (some (.string ⟨#[]⟩), 1, 16)) : ∃ i, o = some i ∧ i.zero = some (.string ⟨#[]⟩) ∧ i.size = 1 ∧ i.bytes = 16 := by
  cases o with
  | none => simp at h
  | some i =>
    simp only [Option.map_some, Option.some.injEq, Prod.mk.injEq] at h
    exact ⟨i, rfl, h.1, h.2.1, h.2.2⟩
/-- a row of strings of the call's own -/
def OwnS (w : World) (B : Nat) (v : Value) (l : List ByteArray) : Prop := w.ownsRow B 9 1 v l.length (l.map .string)
theorem appended_str (w : World) (ty : TypeId) (B : Nat) (v : Value) (l : List ByteArray) (t : ByteArray) (hown : OwnS w B v l) (hB : B ≤ w.heap.size) (hn : l.length ≤ 1000000) :
    ∃ v' w', (Builtin.append_ #[78, 78] ty #[v, .slice (some ⟨w.heap.size, 0, none⟩) 1 1]).run Tryd.prog (w.alloc (.cells #[.string t] 9)) = .ok v' w' ∧ OwnS w' B v' (l ++ [t]) ∧ (w.alloc (.cells #[.string t] 9)).grownBy w' v.ownBlock ∧ ∃ g c, v' = .slice (some ⟨g, 0, none⟩) (l.length + 1) c := by
  obtain ⟨i0, hi, hz0, hz1, hz2⟩ := info_partsS info_str
  obtain ⟨v', w', hr, h2, h3, h4⟩ := run_append_own (P := Tryd.prog) (w.alloc (.cells #[.string t] 9)) B 78 ty 9 i0 (.string ⟨#[]⟩) 1 16 Tryd.underlying78 hi hz0 hz1 hz2 rfl (by decide) v l.length (l.map .string) (hown.alloc _) ⟨w.heap.size, 0, none⟩ 1 1 [.string t] rfl
    (fun j u hj => cell_one_new _ _ _ j u hj)
    (by simp [Value.oneCell']) (by unfold maxLen; omega) (by omega) (by simp; omega)
  refine ⟨v', w', hr, ?_, h3, ?_⟩
  · unfold OwnS
    rw [List.length_append, List.map_append]
    exact h2
  · obtain ⟨g, c, e⟩ := ownsRow_succ h2
    exact ⟨g, c, e⟩
theorem cell_allocT {w : World} {p : Addr} {v : Value} (h : w.cell? p = some v) (o : Obj) : (w.alloc o).cell? p = some v :=
  (((Below.refl w.heap.size w).alloc (Nat.le_refl _) o).cell (World.block_lt_of_cell? w _ h)).trans h
/-- 'append' on rows of strings, not laid open by the walk -/
def appSem (ty : TypeId) (args : Array Value) : Sem Value := Builtin.append_ #[78, 78] ty args
theorem app_sem (ty : TypeId) (args : Array Value) : Builtin.append_ #[78, 78] ty args = appSem ty args := rfl
attribute [local go_sem ↓] app_sem
theorem boxedT_below {W W' : World} {B : Nat} {t : TypeId} {v : Value} (h : Boxed W B t v) (hb : Below W.heap.size W W') : Boxed W' B t v := h.kept (grownBy_of_below hb none) (by simp)
theorem kf_below {n : Nat} {W W' : World} (h : Below W.heap.size W W') : KeepsFrom n W W' := KeepsFrom.of_grownBy (grownBy_of_below h none) (fun j e => by cases e)

set_option maxHeartbeats 2000000 in
theorem impl_text (va : Value) (x n : Nat) (w : World) (ha : RowOf iV w va (limI x)) (hn1 : nlen x = n + 1) (hx : nlen x ≤ 60) (htab : Lib.TabIs Tryd.prog w "internal/strconv.uint64pow10" .u64 Lib.pow10Tab) :
    Calls Tryd.prog 41 #[va] w fun e w' => e = .returned (.string (decT x)) ∧ Below w.heap.size w w' := by
  have RA := Lib.hid ha
  obtain ⟨aa, ca, rfl, hca, h2, h3⟩ := ha
  clear h2 h3
  rw [limI_length] at RA hca ⊢
  have hxn : x < pw (n + 1) := by rw [← hn1]; exact lt_pw_nlen x
  have hxn2 : pw n ≤ x := le_of_lt_nlen (by omega)
  rw [hn1] at RA hx hca ⊢
  have HN := Lib.hid hn1
  have ht := dig_of_lt hxn
  obtain ⟨bb, ob, rfl, cx⟩ := row_limb RA.out (k := n) (by omega)
  have hz : ((n : Int) + 1 == 0) = false := by simp; omega
  have e1 : ((n : Int) + 1 - 1).toNat = n := by omega
  have hl := dig_lt x n
  obtain ⟨d, hd⟩ : ∃ d, dig x n = d := ⟨_, rfl⟩
  rw [hd] at ht cx hl
  have FI := Lib.hid (fun (d : Nat) (hd : d < 1000000000) W' (hW : Below w.heap.size w W') => impl_format d W' (by omega) (by omega) (tab_below hW htab))
  have S0 : Hid (Calls Tryd.prog 65 #[.int .i64 d] w fun e w' => e = .returned (.string (decT (x / pw n))) ∧ Below w.heap.size w w') := by
    have := FI.out d (by omega) w (Below.refl _ _)
    rw [itoa_nat] at this
    unfold Hid decT
    rw [← ht]
    exact this
  have PJ := Lib.hid (parts_join x n hxn2)
  have PF := Lib.hid (parts_flat x n hxn2)
  have hts : (decT (x / pw n)).size ≤ 1000 := by
    have := decT_size (x := x / pw n) (n := n + 1) (Nat.lt_of_le_of_lt (Nat.div_le_self _ _) hxn)
    omega
  have HXN := Lib.hid hxn
  obtain ⟨t0, ht0⟩ : ∃ t, decT (x / pw n) = t := ⟨_, rfl⟩
  rw [ht0] at S0 hts
  have HT0 := Lib.hid ht0
  clear hd ht ht0 hl hxn2 htab hn1 hxn
  refine (callsIn_wide (n := 3)).1 ?_
  refine callsIn_of_wp_marks Tryd.func41 rfl trivial ?_ rfl
  simp only [Tryd.ntmps41, List.size_toArray, List.length_cons, List.length_nil, Nat.reduceAdd, Nat.reduceSub, Array.replicate_succ, Array.replicate_zero, List.push_toArray, List.append_toArray, List.nil_append, List.cons_append]
  refine wpIn_wide.2 ?_
  go_wp2_with (first
    | (go_at_call 66; refine ((callsIn_wide (n := 3)).1 (back_in Fence.wide _ trivial rfl _ _ _ _)).mono ?_; rintro e w' ⟨rfl, hw⟩; subst hw)
    | (go_at_call 65; refine S0.out.mono ?_; rintro e w1 ⟨rfl, b1⟩))
  clear S0 cx e1 hz
  obtain ⟨W0, hW0⟩ : ∃ W0, W0 = ((w1.alloc (.cells #[.string t0] 9)).alloc (.cells #[.slice (some ⟨w1.heap.size, 0, none⟩) 1 1] 78)).alloc (.cells #[.slice (some ⟨bb, ob, none⟩) n ca] 53) := ⟨_, rfl⟩
  have q0 : OwnS (w1.alloc (.cells #[.string t0] 9)) w1.heap.size (.slice (some ⟨w1.heap.size, 0, none⟩) 1 1) [t0] := World.ownsRow_lit (base := w1.heap.size) (e := 9) (size := 1) w1 #[.string t0] 1 (Nat.le_refl _) (by unfold maxLen; omega) (by simp)
  have b0 := (q0.alloc (.cells #[.slice (some ⟨w1.heap.size, 0, none⟩) 1 1] 78)).alloc (.cells #[.slice (some ⟨bb, ob, none⟩) n ca] 53)
  have b3 := (Boxed.new (w1.alloc (.cells #[.string t0] 9)) 78 (.slice (some ⟨w1.heap.size, 0, none⟩) 1 1)).alloc (.cells #[.slice (some ⟨bb, ob, none⟩) n ca] 53)
  have b4 := Boxed.new ((w1.alloc (.cells #[.string t0] 9)).alloc (.cells #[.slice (some ⟨w1.heap.size, 0, none⟩) 1 1] 78)) 53 (.slice (some ⟨bb, ob, none⟩) n ca)
  have bB : Below w1.heap.size w1 W0 := by
    rw [hW0]
    exact (((Below.refl _ w1).alloc (Nat.le_refl _) _).alloc (by simp) _).alloc (by simp; omega) _
  have bS : W0.heap.size = w1.heap.size + 1 + 1 + 1 := by rw [hW0]; simp
  rw [← hW0] at b0 b3 b4 ⊢
  simp only [World.size_alloc] at b3 b4
  have O0 := Lib.hid (show OwnS W0 w1.heap.size (.slice (some ⟨w1.heap.size, 0, none⟩) 1 1) [t0] from b0)
  have B3 := Lib.hid b3
  have B4 := Lib.hid b4
  have BB := Lib.hid bB
  have BW := Lib.hid b1
  have RD := Lib.hid (show Rd (VL x) (some ⟨bb, ob, none⟩) n W0 from fun i hi => rd_below (rd_below (rd_limbs RA.out) b1) bB i (by omega))
  have hbb : bb < w.heap.size := rd_block (rd_limbs RA.out) bb ob rfl (by omega)
  have hbw := b1.size
  clear b0 b3 b4 bB hW0 b1 q0
  obtain ⟨h, hh⟩ : ∃ h, w1.heap.size = h := ⟨_, rfl⟩
  rw [hh] at O0 B3 B4 BB bS hbw ⊢
  have HH := Lib.hid hh
  have BS := Lib.hid bS
  clear hh bS
  refine (wpIn_wide (n := 3)).1 ?_
  refine wpIn_rangeFunc_ownG rfl (by omega) (gf := 84) (lb := #[.pointer (some ⟨h + 1 + 1, 0, none⟩)]) rfl trivial (enters_of Tryd.func84 (by kernel_rfl) rfl)
    (back_stops Fence.wide _ trivial rfl (by omega) (h + 1 + 1) h n ca (some ⟨bb, ob, none⟩) (VL x) (by omega) W0 B4.out.cell RD.out) (fun h k => KpB.trans h k) (KpB.putObj (by rw [BS.out]; omega) (by rw [BS.out]; omega) (fun b o e hl => by injection e with e; injection e with e _ _; rw [BS.out]; omega)) (Below.refl _ _) (fun _ => rfl)
    (fun pre W => ((∃ v, Boxed W (h + 1) 78 v ∧ W.ownsRow h 9 1 v (partsT x n (pre.map idx)).length ((partsT x n (pre.map idx)).map .string) ∧ True) ∧ Boxed W (h + 1 + 1) 53 (.slice (some ⟨bb, ob, none⟩) n ca)) ∧ Below h w1 W)
    (fun _ _ _ => False)
    (OwnFrom.and (Own.from (fun s A B row hs hg hr => ⟨holdsRow_own h (h + 1) 78 9 1 (fun s : List (BackA n (VL x)) => (partsT x n (s.map idx)).length) (fun s => (partsT x n (s.map idx)).map .string) (fun _ _ => True) s A B row hs.1 hg hr, boxed_own _ _ (fun _ : List (BackA n (VL x)) => _) s A B row hs.2 hg hr⟩) _) (ownFrom_below (by rw [HH.out]; exact Nat.le_refl _) (by rw [BS.out]; omega)))
    (fun _ _ _ _ _ hs _ _ => hs)
    ⟨⟨⟨_, B3.out, by
        have := O0.out
        unfold OwnS at this
        rw [← HT0.out] at this
        exact this, trivial⟩, B4.out⟩, BB.out⟩
    (fun z => { tmps := #[.slice (some ⟨bb, ob, none⟩) (n + 1) ca, undef, .string ⟨#[]⟩, .int .i64 n, .pointer (some ⟨h + 1, 0, none⟩), undef, .int .i64 z.1.2, .slice (some ⟨bb, ob, none⟩) (n + 1) ca, .int .i64 ((n : Int) + 1), .bool false, .slice (some ⟨bb, ob, none⟩) (n + 1) ca, .int .i64 ((n : Int) + 1), .int .i64 n, .slice (some ⟨bb, ob, none⟩) (n + 1) ca, .int .i64 n, .pointer (some ⟨bb, ob + n, none⟩), .int .i64 d, .string t0, .slice (some ⟨h, 0, none⟩) 1 1, .slice (some ⟨bb, ob, none⟩) (n + 1) ca, .int .i64 n, .slice (some ⟨bb, ob, none⟩) n ca, .func (.func 84) #[] #[.pointer (some ⟨h + 1 + 1, 0, none⟩)], .int .i64 (z.1.1 : Int), .int .i64 z.1.2, undef, undef, undef, undef, undef, undef, undef, undef], defers := [] }) ?assign ?body ?done ?stop
  case assign =>
    intro l z W K hK
    gi_wp2
    exact hK
  case body =>
    rintro l pre z W ⟨⟨⟨v, k1, k2, _⟩, k3⟩, kB⟩ hpl
    have hi := z.2.1
    have hzv : z.1.2 = (dig x z.1.1 : Int) := z.2.2
    have hmap : (pre ++ [z]).map idx = pre.map idx ++ [z.1.1] := by rw [List.map_append]; rfl
    have hLl := partsT_len x n (pre.map idx)
    rw [List.length_map] at hLl
    have hsn := partsT_snoc x n (pre.map idx) z.1.1
    rw [← hmap] at hsn
    rw [hzv]
    obtain ⟨i, hie⟩ : ∃ i, z.1.1 = i := ⟨_, rfl⟩
    rw [hie] at hi hsn ⊢
    obtain ⟨L, hL⟩ : ∃ L, partsT x n (pre.map idx) = L := ⟨_, rfl⟩
    rw [hL] at k2 hLl hsn
    have HSN := Lib.hid hsn
    obtain ⟨m, hm⟩ : ∃ m, pre.length = m := ⟨_, rfl⟩
    rw [hm] at hLl hpl
    obtain ⟨g, c, rfl⟩ := ownsRow_succ (hLl ▸ k2 : W.ownsRow h 9 1 v (m + 1) (L.map .string))
    have hlt := dig_lt x i
    have p9 := pad_dec x i
    have s3 := decT_size9 x i
    have f1 := FI.out (dig x i) hlt
    rw [itoa_nat] at f1
    have hWh : h ≤ W.heap.size := by have := kB.size; rw [HH.out] at this; exact this
    have bwW : Below w.heap.size w W := BW.out.trans (kB.mono hbw)
    have FC1 : Hid (∀ W' : World, Below W.heap.size W W' → CallsIn Fence.wide 0 Tryd.prog 65 #[.int .i64 (dig x i : Nat)] W' fun e w' => e = .returned (.string (decT (dig x i))) ∧ Below W'.heap.size W' w') := fun W' hW => callsIn_wide.2 (f1 W' (bwW.trans (hW.mono bwW.size)))
    have FC2 : Hid (∀ W' : World, CallsIn Fence.wide 0 Tryd.prog 67 #[.string (decT (dig x i)), .int .i64 9] W' fun e w' => e = .returned (.string (padN9 (dig x i))) ∧ Below W'.heap.size W' w') := fun W' => by
      have := impl_pad (decT (dig x i)) 9 W' (by omega) (by omega) (by omega)
      rw [p9] at this
      exact callsIn_wide.2 this
    have AP : Hid (∀ W' : World, Below W.heap.size W W' → ∃ g' c' w4, (appSem 78 #[.slice (some ⟨g, 0, none⟩) (m + 1) c, .slice (some ⟨W'.heap.size, 0, none⟩) 1 1]).run Tryd.prog (W'.alloc (.cells #[.string (padN9 (dig x i))] 9)) = .ok (.slice (some ⟨g', 0, none⟩) (m + 1 + 1) c') w4 ∧
        w4.cell? ⟨h + 1, 0, none⟩ = some (.slice (some ⟨g, 0, none⟩) (m + 1) c) ∧ w4.frozen? ⟨h + 1, 0, none⟩ = false ∧
        Hid (∀ Wf, Wf = w4.setCell ⟨h + 1, 0, none⟩ (.slice (some ⟨g', 0, none⟩) (m + 1 + 1) c') → KeepsFrom W0.heap.size W Wf ∧ KpB (VL x) (some ⟨bb, ob, none⟩) n (h + 1 + 1) h W Wf ∧
          (((∃ v, Boxed Wf (h + 1) 78 v ∧ Wf.ownsRow h 9 1 v (partsT x n ((pre ++ [z]).map idx)).length ((partsT x n ((pre ++ [z]).map idx)).map .string) ∧ True) ∧ Boxed Wf (h + 1 + 1) 53 (.slice (some ⟨bb, ob, none⟩) n ca)) ∧ Below h w1 Wf))) := fun W' hW => by
      have hWh' : h ≤ W'.heap.size := Nat.le_trans hWh hW.size
      have k1' := boxedT_below k1 hW
      have k2' := ownsRow_below k2 hW
      have k3' := boxedT_below k3 hW
      obtain ⟨v', w4, hr, hO, hG, g', c', rfl⟩ := appended_str W' 78 h _ L (padN9 (dig x i)) k2' hWh' (by omega)
      rw [hLl] at hr hO
      have hO2 := hO
      unfold OwnS at hO2
      have ha := Boxed.appended k1' (by decide) k2' hWh' (by omega) hO2 hG
      obtain ⟨a1, a2, a3, a4, a5⟩ := ha
      have hbW : Below h W (w4.setCell ⟨h + 1, 0, none⟩ (.slice (some ⟨g', 0, none⟩) (m + 1 + 1) c')) := (hW.mono hWh).trans a5
      have k3f : Boxed (w4.setCell ⟨h + 1, 0, none⟩ (.slice (some ⟨g', 0, none⟩) (m + 1 + 1) c')) (h + 1 + 1) 53 (.slice (some ⟨bb, ob, none⟩) n ca) :=
        ((k3'.alloc _).kept hG (k3'.not_row (by decide) k2')).other (by omega) _
      refine ⟨g', c', w4, hr, a1.cell, a1.frozen, ?_⟩
      rintro Wf rfl
      refine ⟨(kf_below hW).trans (a4.from _), ⟨hbW, Eq.trans (show _ = _ from k3f) (show _ = _ from k3).symm, fun hR => rd_keep hR (fun b o e hl => hbW.block b (by injection e with e; injection e with e _ _; omega))⟩, ⟨⟨_, a2, ?_, trivial⟩, k3f⟩, kB.trans hbW⟩
      rw [HSN.out]
      exact a3
    have c3 := k1.cell
    have lt3 : h + 1 < W.heap.size := k1.lt
    have hlim : (m : Int) + 1 ≤ 1000 := by omega
    have KB := Lib.hid kB
    clear hsn hmap hzv hie hL k1 k2 k3 kB bwW f1 p9
    obtain ⟨t1, ht1⟩ : ∃ t, decT (dig x i) = t := ⟨_, rfl⟩
    obtain ⟨t2, ht2⟩ : ∃ t, padN9 (dig x i) = t := ⟨_, rfl⟩
    rw [ht1] at FC1 FC2 s3
    rw [ht2] at FC2 AP
    obtain ⟨e0, he0⟩ : ∃ e, dig x i = e := ⟨_, rfl⟩
    rw [he0] at FC1 hlt ⊢
    clear ht1 ht2 he0 HSN
    have hmx : Tryd.prog.follows .mixedOrders = true := by kernel_rfl
    gi_wp2
    gi_region_with (first
      | (gi_at_call 65; refine ((FC1.out _ (by first | exact Below.refl _ _ | exact (Below.refl _ _).drew)).inRound l).mono ?_; rintro e' w2 ⟨rfl, b2⟩; have bb2 : Below W.heap.size W w2 := (by first | exact b2 | exact ((Below.refl _ _).drew).trans b2); have c32 := (bb2.cell (p := ⟨h + 1, 0, none⟩) lt3).trans c3)
      | (gi_at_call 67; refine ((FC2.out _).inRound l).mono ?_; rintro e' w3 ⟨rfl, b3⟩; have bb3 : Below W.heap.size W w3 := bb2.trans (b3.mono bb2.size); have lt33 : h + 1 < w3.heap.size := Nat.lt_of_lt_of_le lt3 bb3.size; have c33 := (bb3.cell (p := ⟨h + 1, 0, none⟩) lt3).trans c3; obtain ⟨g', c', w4, hrun, hc4, hf4, hfin⟩ := AP.out w3 bb3))
    all_goals gi_wp2
    all_goals exact hfin.out _ rfl
  case done =>
    rintro D ys W hD hS ⟨⟨⟨v, k1, k2, _⟩, k3⟩, kB⟩ hK
    rw [hS] at k2
    have hl1 := partsT_len x n (descN n n)
    rw [descN_length] at hl1
    obtain ⟨g, c, rfl⟩ := ownsRow_succ (hl1 ▸ k2 : W.ownsRow h 9 1 v (n + 1) ((partsT x n (descN n n)).map .string))
    have hrow : RowOf .string W (.slice (some ⟨g, 0, none⟩) (n + 1) c) (partsT x n (descN n n)) := ownsRow_row k2
    have T0 := impl_join _ (partsT x n (descN n n)) ⟨#[]⟩ W hrow (by rw [PJ.out]; have := dec_limbs (n + 1) x HXN.out; omega) (by rw [hl1]; omega)
    rw [PJ.out] at T0
    have T1 : Calls Tryd.prog 68 #[.slice (some ⟨g, 0, none⟩) (n + 1) c, .string ⟨#[]⟩] W fun e w' => e = .returned (.string (decT x)) ∧ Below W.heap.size W w' := T0
    have T := Lib.hid T1
    clear T0 T1
    have c3 := k1.cell
    have HDD := Lib.hid hD
    have HK := Lib.hid hK
    have KB := Lib.hid kB
    clear hl1 hrow k1 k2 k3 kB hK hD hS
    go_wp2_with (go_at_call 68; refine T.out.mono ?_; rintro e' w9 ⟨rfl, hb9⟩)
    have hD' : D < W.heap.size := (Array.getElem?_eq_some_iff.1 HK.out).1
    have hK' : w9.heap[D]? = some (.deferred (some [])) := (hb9.block D hD').trans HK.out
    have hWh : h ≤ W.heap.size := by have := KB.out.size; rw [HH.out] at this; exact this
    refine ⟨by simp, .inl ⟨_, _, rfl, run_takeDeferred hK', ?_⟩⟩
    refine ⟨.string (decT x), ?_, rfl, ?_⟩
    · simp [results, Tryd.f41, go_sem]
    · exact below_shut ((BW.out.trans (KB.out.mono hbw)).trans (hb9.mono (by omega))) (by have := HDD.out; have := BS.out; omega) (by have := hb9.size; omega)
  case stop =>
    rintro D c pre W hD _ hf _
    exact hf.elim

end Go.Proofs.YtofmpfcbdemcnaaDoor
