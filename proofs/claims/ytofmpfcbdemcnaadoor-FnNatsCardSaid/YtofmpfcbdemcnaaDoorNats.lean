/- FnNats: natural numbers divide with a rest, are divided by their greatest common divisor, and are recovered from their text. -/
import Derived.Test.YtofmpfcbdemcnaaDoorDivLaw
import Derived.Test.YtofmpfcbdemcnaaDoorGcdLaw
import Derived.Test.YtofmpfcbdemcnaaDoorMulLaw
import Derived.Test.YtofmpfcbdemcnaaDoorCmpLaw
import Derived.Test.YtofmpfcbdemcnaaDoorFmtLaw
import Derived.Test.YtofmpfcbdemcnaaDoorParseLaw
import Derived.Test.YtofmpfcbdemcnaaDoorNatOf
import Derived.Test.YtofmpfcbdemcnaaDoorSpecDiv
import Derived.Test.YtofmpfcbdemcnaaDoorCursor
import Derived.ProofKit
import Derived.OpenShut
namespace Go.Proofs.YtofmpfcbdemcnaaDoor
open Go.RowKit Go.WideShapes Go.ChangeShapes

theorem Cur.alloc {W0 w : World} {cb : Nat} {v : Value} {bs : List UInt8} (h : Cur W0 w cb v bs) (o : Obj) : Cur W0 (w.alloc o) cb v bs :=
  h.kept (grownBy_of_below ((Below.refl _ w).alloc (Nat.le_refl _) o) none) (fun g hg => by cases hg)
theorem limbs_dig (l : List Int) (h : ∀ z ∈ l, 0 ≤ z ∧ z < 1000000000) : ∃ T, listF l.length (digF T) = l ∧ nlen T ≤ l.length := by
  have hA : AllLimb (l.map Int.toNat) := by
    intro x hx
    obtain ⟨z, hz, rfl⟩ := List.mem_map.1 hx
    have := h z hz
    omega
  refine ⟨val (l.map Int.toNat), ?_, ?_⟩
  · refine List.ext_getElem (by rw [listF_length]) fun i h1 h2 => ?_
    rw [listF_get]
    unfold digF
    rw [dig_val _ _ (by simpa using h2) hA]
    have := (h _ (List.getElem_mem h2)).1
    simp only [List.getElem_map]
    omega
  · rw [nlen_le_iff]
    have := val_lt _ hA
    simpa using this

set_option maxHeartbeats 1000000 in
theorem cur_below1k (W0 w : World) (cb : Nat) (v : Value) (bs : List UInt8) (h : Cur W0 w cb v bs) :
    Calls Tryd.prog 33 #[.pointer (some ⟨cb, 0, none⟩), .int .i64 1000] w fun e w' => (∃ x : Int, e = .returned (.int .i64 x) ∧ 0 ≤ x ∧ x < 1000) ∧ Cur W0 w' cb v bs ∧ w.grownBy w' (some cb) := by
  have H := Lib.hid h
  clear h
  go_enter Tryd.func33, Tryd.ntmps33
  go_wp2_with fail
  refine (cur_step W0 w cb v bs H.out).mono ?_
  rintro e w1 ⟨⟨x1, rfl, h10, h11⟩, hc, hg⟩
  have HC1 := Lib.hid hc
  have HG1 := Lib.hid hg
  clear hc hg
  go_wp2_with fail
  refine (cur_step W0 w1 cb v bs HC1.out).mono ?_
  rintro e w2 ⟨⟨x2, rfl, h20, h21⟩, hc, hg⟩
  have HC2 := Lib.hid hc
  have HG2 := Lib.hid (grown_trans HG1.out hg)
  clear hc hg
  go_wp2_with fail
  refine (cur_step W0 w2 cb v bs HC2.out).mono ?_
  rintro e w3 ⟨⟨x3, rfl, h30, h31⟩, hc, hg⟩
  have HC3 := Lib.hid hc
  have HG3 := Lib.hid (grown_trans HG2.out hg)
  clear hc hg
  go_wp2_with fail
  refine (cur_step W0 w3 cb v bs HC3.out).mono ?_
  rintro e w4 ⟨⟨x4, rfl, h40, h41⟩, hc, hg⟩
  have HC4 := Lib.hid hc
  have HG4 := Lib.hid (grown_trans HG3.out hg)
  clear hc hg
  go_wp2
  go_ret
  exact ⟨⟨_, rfl, by omega, by omega⟩, HC4.out, HG4.out⟩

set_option maxHeartbeats 1000000 in
theorem make_nat (v : Value) (bs : List UInt8) (j : Int) (w : World) (h : RowOf u8V w v bs) (hn : bs.length ≤ 1048576) (hj : j ≤ 1000000) :
    Calls Tryd.prog 8 #[v, .int .i64 j] w fun e w' => ∃ v' x, e = .returned v' ∧ OwnI w' w.heap.size v' (limI x) ∧ nlen x ≤ 3 ∧ Below w.heap.size w w' := by
  have H := Lib.hid h
  clear h
  go_enter Tryd.func8, Tryd.ntmps8
  go_wp2_with fail
  refine (cur_new30 v bs j _ H.out hn hj).mono ?_
  rintro e w1 ⟨cb, rfl, hc⟩
  have hlt := hc.lt
  have hlo := hc.lo
  have hsz := hc.below.size
  have HC1 := Lib.hid hc
  clear hc
  go_wp2_with fail
  refine (cur_below w _ cb v bs 4 (HC1.out.alloc _) (by omega) (by omega)).mono ?_
  rintro e w2 ⟨⟨x, rfl, hx0, hx1⟩, hc2, hg2⟩
  have HL := Lib.hid ((OwnI.lit0 w1).other hg2 (fun g g' h1 h2 => by simp [Value.ownBlock] at h1 h2; omega))
  have hsz2 : w1.heap.size ≤ w2.heap.size := by have := hg2.size; simp at this; omega
  have HC2 := Lib.hid hc2
  obtain ⟨B, hB⟩ : ∃ B, B = w1.heap.size := ⟨_, rfl⟩
  clear hc2 hg2
  go_wp2
  go_loopw [6, 7] (fun lv kv wr => ∃ (l : List Int) (k : Int), 0 ≤ k ∧ l.length + k ≤ 3 ∧ kv = .int .i64 k ∧ Hid (∀ z ∈ l, 0 ≤ z ∧ z < 1000000000) ∧ Hid (OwnI wr B lv l) ∧ Hid (Cur w wr cb v bs) ∧ B ≤ wr.heap.size) (fun _ kv _ => (intOf kv).toNat)
  case atStart => exact ⟨[], x, hx0, by simp; omega, rfl, by simp [Hid], by rw [hB]; exact HL.out, HC2.out, by omega⟩
  case round =>
    obtain ⟨l, k, hk0, hlk, rfl, HZ, HO, HK, hBw⟩ := hrel
    obtain ⟨lv, rfl⟩ : ∃ lv, lv = u6 := ⟨_, rfl⟩
    by_cases hp : 0 < k
    · go_wp2_with fail
      refine (cur_below1k w wr cb v bs HK.out).mono ?_
      rintro e w3 ⟨⟨x1, rfl, h10, h11⟩, hc3, hg3⟩
      have HC3 := Lib.hid hc3
      have HO3 := Lib.hid (HO.out.other hg3 (fun g g' h1 h2 => by have := (HO.out.lt g h1).1; simp at h2; omega))
      have hs3 := hg3.size
      clear hc3 hg3
      go_wp2_with fail
      refine (cur_below1k w w3 cb v bs HC3.out).mono ?_
      rintro e w4 ⟨⟨x2, rfl, h20, h21⟩, hc4, hg4⟩
      have HC4 := Lib.hid hc4
      have HO4 := Lib.hid (HO3.out.other hg4 (fun g g' h1 h2 => by have := (HO3.out.lt g h1).1; simp at h2; omega))
      have hs4 := hg4.size
      clear hc4 hg4
      have hln : l.length ≤ 1099511627776 := by omega
      have hc2 : ∀ o, B ≤ (w4.alloc o).heap.size := fun o => by simp; omega
      go_wp2_with (at_builtin; refine append_int rfl _ _ 23 Tryd.underlying23 rfl B _ _ _ ⟨w4.heap.size, 0, none⟩ rfl (HO4.out.alloc _) rfl (cell_one_new _ _ _) hln (hc2 _) ?_; intro v' w5 h1 hg5)
      have HN := Lib.hid h1
      have HC5 := Lib.hid ((HC4.out.alloc _).kept hg5 (fun g hg => by have := (HO4.out.lt g hg).1; omega))
      have hs5 := hg5.size
      simp at hs5
      clear h1 hg5
      go_roundw
      case rel => exact ⟨l ++ [_], k - 1, by omega, by simp; omega, by go_num, by intro z hz; simp at hz; rcases hz with hz | rfl; exact HZ.out z hz; omega, HN.out, HC5.out, by omega⟩
      case measure => simp [intOf]; omega
    · obtain ⟨T, hT, hTl⟩ := limbs_dig l HZ.out
      have HT := Lib.hid hT
      have hln : (limI T).length ≤ 3 := by rw [limI_length]; omega
      clear hT
      go_wp2_with fail
      refine (spec_trim lv T l.length B _ (by rw [HT.out]; exact HO.out.alloc _) hTl).mono ?_
      rintro e w6 ⟨v6, rfl, o6, hw6⟩
      subst hw6
      have O6 := Lib.hid o6
      have hBB := Lib.hid (show ∀ o, w.heap.size ≤ (wr.alloc o).heap.size from fun o => by simp; omega)
      have hBC := Lib.hid ((HK.out.alloc (.cells #[] 3)).below)
      clear o6
      go_wp2_with (at_builtin; refine append_ints rfl _ _ 23 Tryd.underlying23 rfl w.heap.size _ _ [] (limI T) rfl ((OwnI.lit0 wr).base (by omega)) rfl O6.out.row (by simp; omega) (hBB.out _) ?_; intro v7 w7 h7 hg7)
      go_ret
      exact ⟨_, T, rfl, by simpa using h7, by omega, hBC.out.grown hg7 (hBB.out _) (fun g hg => by replace hg : some wr.heap.size = some g := hg; injection hg; omega)⟩

/-- a []byte that came in, as a row -/
theorem bytes_in {H : Type} {enc : TypeId × Value → H} {W : World} {a : Option Addr} {l c : Nat} {d : DataW H} {p : List MemPlace}
    (h : DataW.Trod enc Tryd.prog W 0 (fun _ => true) true 22 (Value.slice a l c) d p) : ∃ bs, RowOf u8V W (.slice a l c) bs ∧ True := by
  obtain ⟨fuel, hf⟩ := h
  rcases open_ints Tryd.underlying22 Tryd.underlying5 (by kernel_rfl) hf with ⟨hcs, _⟩ | ⟨x, l', c', zs, hcs, _, hl, hm, hz, _, hcell, hwz⟩
  · simp [Value.cells] at hcs
    obtain ⟨rfl, rfl, rfl⟩ := hcs
    exact ⟨[], ⟨none, 0, rfl, by simp, by unfold maxLen; omega, fun i hi => by simp at hi⟩, trivial⟩
  · simp [Value.cells] at hcs
    obtain ⟨rfl, rfl, rfl⟩ := hcs
    have hz' : zs.length = c := by simpa using hz
    have hlt : ((zs.take l).map (fun z => UInt8.ofNat z.toNat)).length = l := by simp; omega
    refine ⟨(zs.take l).map (fun z => UInt8.ofNat z.toNat), ⟨some x, c, by rw [hlt], by omega, hm, fun i hi => ?_⟩, trivial⟩
    have hi' : i < zs.length := by omega
    obtain ⟨b, o, spot⟩ := x
    have h0 := hcell 0 (by omega)
    have hspot : spot = none := by simpa [Addr.add] using World.cell?_spot h0
    subst hspot
    refine ⟨b, o, rfl, ?_⟩
    have hc := hcell i hi'
    rw [add_plain] at hc
    rw [hc]
    have hw := hwz (zs[i]'hi') (List.getElem_mem hi')
    have hb : 0 ≤ zs[i]'hi' ∧ zs[i]'hi' ≤ 255 := by simpa [Lit.wf, IntKind.min, IntKind.max, IntKind.signed, IntKind.bits] using hw
    have hg : zs.getD i 0 = zs[i]'hi' := by simp [List.getD, hi']
    rw [hg]
    unfold u8V
    simp only [List.getElem_map, List.getElem_take, UInt8.toNat_ofNat']
    congr 2
    omega


theorem dec_head (x : Nat) (h : 0 < x) : (Lib.decDigits x).head? ≠ some 48 := by
  induction x using Nat.strongRecOn with
  | _ x ih =>
    by_cases hx : x < 10
    · rw [dec_lt hx]
      intro e
      have e2 : UInt8.ofNat (48 + x) = 48 := by simpa using e
      have := congrArg UInt8.toNat e2
      rw [digit_nat x hx] at this
      have h48 : (48 : UInt8).toNat = 48 := rfl
      omega
    · rw [dec_ge hx]
      have i := ih (x / 10) (by omega) (by omega)
      cases hl : Lib.decDigits (x / 10) with
      | nil => have := dec_pos (x / 10); rw [hl] at this; simp at this
      | cons c r => rw [hl] at i; simpa using i
theorem decT_list (x : Nat) : (decT x).data.toList = Lib.decDigits x := by unfold decT; simp
theorem numB_dec {x : Nat} (h : nlen x ≤ 3) : numB (decT x) = true := by
  have hs := decT_size ((nlen_le_iff 3 x).1 h)
  unfold numB
  rw [Bool.and_eq_true, Bool.and_eq_true, Bool.or_eq_true, decide_eq_true_eq, decide_eq_true_eq, decide_eq_true_eq, decT_list]
  refine ⟨⟨digs_digB (by rw [decT_list]; exact (dec_all x).1) (by unfold decT; rw [ba_size]; exact dec_pos x), by omega⟩, ?_⟩
  by_cases h0 : x = 0
  · subst h0; left; rw [decT_zero]; rfl
  · exact .inr (dec_head x (by omega))
theorem parseL_dec {x : Nat} (h : nlen x ≤ 3) : parseL (decT x) = limI x := by
  rw [parseL_yes (numB_dec h)]
  unfold numV
  rw [decT_list, dv_dec]
theorem decT_12 : decT 12 = ⟨#[49, 50]⟩ := by
  unfold decT
  rw [dec_ge (by omega), dec_lt (by omega)]
  rfl
/-- the rest of a division; none by zero -/
def restN (x y : Nat) : Nat := if y = 0 then 0 else x % y
theorem lt_pw60 {x : Nat} (h : nlen x ≤ 3) : x < pw 60 := (nlen_le_iff 60 x).1 (by omega)
theorem div_yes2 {x y : Nat} (hx : nlen x ≤ 3) (hy : nlen y ≤ 3) : natDivQ (limI x) (limI y) = limI (x / y) ∧ natDivR (limI x) (limI y) = limI (restN x y) := by
  obtain ⟨h1, h2⟩ := natDiv_yes (lt_pw60 hx) (lt_pw60 hy)
  refine ⟨h1, h2.trans ?_⟩
  unfold restN
  split
  · rw [limI_zero]
  · rfl
theorem own_slice {w : World} {B : Nat} {v : Value} {l : List Int} (h : OwnI w B v l) : ∃ a c, v = .slice a l.length c := by
  rcases h.form with ⟨rfl, hl⟩ | ⟨g, c, hv, _, _⟩
  · exact ⟨none, 0, by rw [hl]; rfl⟩
  · exact ⟨_, _, hv⟩
theorem div_c {x y : Nat} (hx : nlen x ≤ 3) (hy : nlen y ≤ 3) (va vb : Value) (w : World) (ha : RowOf iV w va (limI x)) (hb : RowOf iV w vb (limI y)) :
    Calls Tryd.prog 9 #[va, vb] w fun e w' => ∃ a0 c0 a1 c1, e = .returned (.tuple #[.slice a0 (nlen (x / y)) c0, .slice a1 (nlen (restN x y)) c1]) ∧ RowOf iV w' (.slice a0 (nlen (x / y)) c0) (limI (x / y)) ∧ RowOf iV w' (.slice a1 (nlen (restN x y)) c1) (limI (restN x y)) ∧ Below w.heap.size w w' := by
  refine (impl_natDiv va _ vb _ w ha hb).mono ?_
  rintro e w' ⟨v0, v1, rfl, o0, o1, _, b⟩
  rw [(div_yes2 hx hy).1] at o0
  rw [(div_yes2 hx hy).2] at o1
  obtain ⟨a0, c0, rfl⟩ := own_slice o0
  obtain ⟨a1, c1, rfl⟩ := own_slice o1
  rw [limI_length] at o0 o1 ⊢
  rw [limI_length]
  exact ⟨a0, c0, a1, c1, rfl, o0.row, o1.row, b⟩
theorem gcd_c {x y : Nat} (hx : nlen x ≤ 3) (hy : nlen y ≤ 3) (va vb : Value) (w : World) (ha : RowOf iV w va (limI x)) (hb : RowOf iV w vb (limI y)) :
    Calls Tryd.prog 10 #[va, vb] w fun e w' => ∃ v, e = .returned v ∧ RowOf iV w' v (limI (Nat.gcd x y)) ∧ Below w.heap.size w w' := by
  refine (impl_natGcd va _ vb _ w ha hb).mono ?_
  rintro e w' ⟨v, rfl, o, b⟩
  rw [natGcdL_yes (lt_pw60 hx) (lt_pw60 hy)] at o
  exact ⟨v, rfl, o.row, b⟩
theorem fmt_c {x : Nat} (hx : nlen x ≤ 3) (va : Value) (w : World) (htab : Lib.TabIs Tryd.prog w "internal/strconv.uint64pow10" .u64 Lib.pow10Tab) (ha : RowOf iV w va (limI x)) :
    Calls Tryd.prog 12 #[va] w fun e w' => e = .returned (.string (decT x)) ∧ Below w.heap.size w w' := by
  have h := impl_formatNat va _ w htab ha
  rw [natText_yes (lt_pw60 hx)] at h
  exact h
theorem parse_c {x : Nat} (hx : nlen x ≤ 3) (w : World) :
    Calls Tryd.prog 11 #[.string (decT x)] w fun e w' => ∃ v, e = .returned (.tuple #[v, .bool true]) ∧ RowOf iV w' v (limI x) ∧ Below w.heap.size w w' := by
  have hs := decT_size ((nlen_le_iff 3 x).1 hx)
  refine (impl_parseNat (decT x) w (by omega)).mono ?_
  rintro e w' ⟨v, rfl, o, b⟩
  rw [parseL_dec hx] at o
  rw [numB_dec hx]
  exact ⟨v, rfl, o.row, b⟩
theorem cmp_c {x y : Nat} (hx : nlen x ≤ 3) (hy : nlen y ≤ 3) (va vb : Value) (w : World) (ha : RowOf iV w va (limI x)) (hb : RowOf iV w vb (limI y)) :
    Calls Tryd.prog 13 #[va, vb] w fun e w' => e = .returned (.int .i64 (cmpN x y)) ∧ Below w.heap.size w w' := by
  have h := impl_natCmp va _ vb _ w ha hb
  rw [natCmpI_yes (lt_pw60 hx) (lt_pw60 hy)] at h
  exact h
theorem of_c (w : World) :
    Calls Tryd.prog 14 #[.int .i64 12] w fun e w' => ∃ v, e = .returned v ∧ RowOf iV w' v (limI 12) ∧ Below w.heap.size w w' := by
  refine (impl_natOf 12 w (by omega)).mono ?_
  rintro e w' ⟨v, rfl, o, b⟩
  exact ⟨v, rfl, o.row, b⟩
theorem mul_c {x y : Nat} (hx : nlen x ≤ 3) (hy : nlen y ≤ 3) (hxy : nlen (x * y) ≤ 3) (va vb : Value) (w : World) (ha : RowOf iV w va (limI x)) (hb : RowOf iV w vb (limI y)) :
    Calls Tryd.prog 16 #[va, vb] w fun e w' => ∃ v, e = .returned v ∧ RowOf iV w' v (limI (x * y)) ∧ Below w.heap.size w w' := by
  refine (impl_natMul va _ vb _ w ha hb).mono ?_
  rintro e w' ⟨v, rfl, o, b⟩
  rw [natMulL_yes (lt_pw60 hx) (lt_pw60 hy), capL_yes (lt_pw60 hxy)] at o
  exact ⟨v, rfl, o.row, b⟩
theorem add_c {x y : Nat} (hx : nlen x ≤ 3) (hy : nlen y ≤ 3) (hxy : nlen (x + y) ≤ 3) (va vb : Value) (w : World) (ha : RowOf iV w va (limI x)) (hb : RowOf iV w vb (limI y)) :
    Calls Tryd.prog 15 #[va, vb] w fun e w' => ∃ v, e = .returned v ∧ RowOf iV w' v (limI (x + y)) ∧ Below w.heap.size w w' := by
  refine (impl_natAdd va _ vb _ w ha hb).mono ?_
  rintro e w' ⟨v, rfl, o, b⟩
  rw [natAddL_yes (lt_pw60 hx) (lt_pw60 hy), capL_yes (lt_pw60 hxy)] at o
  exact ⟨v, rfl, o.row, b⟩
theorem make_c (v : Value) (bs : List UInt8) (j : Int) (w : World) (h : RowOf u8V w v bs) (hn : bs.length ≤ 1048576) (hj : j ≤ 1000000) :
    Calls Tryd.prog 8 #[v, .int .i64 j] w fun e w' => ∃ x a c, e = .returned (.slice a (nlen x) c) ∧ nlen x ≤ 3 ∧ RowOf iV w' (.slice a (nlen x) c) (limI x) ∧ Below w.heap.size w w' := by
  refine (make_nat v bs j w h hn hj).mono ?_
  rintro e w' ⟨v', x, rfl, o, hx, b⟩
  obtain ⟨a, c, rfl⟩ := own_slice o
  rw [limI_length] at o ⊢
  exact ⟨x, a, c, rfl, hx, o.row, b⟩
theorem nlen_12 : nlen 12 ≤ 3 := by rw [nlen_le_iff]; simp only [pw]; omega
theorem nlen_le3 {x y : Nat} (h : x ≤ y) (hy : nlen y ≤ 3) : nlen x ≤ 3 := Nat.le_trans (nlen_mono h) hy
theorem rest_le (x y : Nat) : restN x y ≤ x := by unfold restN; split; omega; exact Nat.mod_le _ _

set_option maxHeartbeats 4000000 in
theorem law_nats (w : World) (htab : Lib.TabIs Tryd.prog w "internal/strconv.uint64pow10" .u64 Lib.pow10Tab) (v : Value) (bs : List UInt8) (hrow : RowOf u8V w v bs) (_ : True) :
    Calls Tryd.prog 3 #[v] w fun e w' => e = .returned (.bool true) ∧ Below w.heap.size w w' := by
  have HR := Lib.hid hrow
  obtain ⟨a, c, rfl, hc, hm, hr⟩ := hrow
  clear hr
  unfold maxLen at hm
  obtain ⟨n, hn⟩ : ∃ n, bs.length = n := ⟨_, rfl⟩
  rw [hn] at hc HR ⊢
  have HN := Lib.hid hn
  clear hn
  have HT := Lib.hid htab
  clear htab
  by_cases hl : n ≤ 1048576
  · go_enter Tryd.func3, Tryd.ntmps3
    go_wp2_with fail
    refine (make_c _ bs 1 _ HR.out (by rw [HN.out]; exact hl) (by omega)).mono ?_
    rintro e w1 ⟨x, aa, ca, rfl, hx3, ra, hb1⟩
    have HX := Lib.hid hx3
    have RA := Lib.hid ra
    have B := Lib.hid hb1
    clear hx3 ra hb1
    go_wp2_with fail
    refine (make_c _ bs 9 _ (rowOf_below HR.out B.out) (by rw [HN.out]; exact hl) (by omega)).mono ?_
    rintro e w2 ⟨y, ab, cb, rfl, hy3, rb, hb2⟩
    have HY := Lib.hid hy3
    have RB := Lib.hid rb
    replace RA := Lib.hid (rowOf_below RA.out hb2)
    replace B := Lib.hid (B.out.trans (hb2.mono B.out.size))
    clear hy3 rb hb2
    go_wp2_with fail
    refine (div_c HX.out HY.out _ _ w2 RA.out RB.out).mono ?_
    rintro e w3 ⟨aq, cq, ar, cr, rfl, rq, rr, hb3⟩
    have RQ := Lib.hid rq
    have RR := Lib.hid rr
    replace RA := Lib.hid (rowOf_below RA.out hb3)
    replace RB := Lib.hid (rowOf_below RB.out hb3)
    replace B := Lib.hid (B.out.trans (hb3.mono B.out.size))
    clear rq rr hb3
    obtain ⟨q, hq⟩ : ∃ q, x / y = q := ⟨_, rfl⟩
    obtain ⟨r, hr⟩ : ∃ r, restN x y = r := ⟨_, rfl⟩
    rw [hq] at RQ ⊢
    rw [hr] at RR ⊢
    have HQ := Lib.hid hq
    have HE := Lib.hid hr
    clear hq hr
    go_wp2_with fail
    refine (gcd_c HX.out HY.out _ _ w3 RA.out RB.out).mono ?_
    rintro e w4 ⟨vg, rfl, rg, hb4⟩
    have RG := Lib.hid rg
    replace RA := Lib.hid (rowOf_below RA.out hb4)
    replace RB := Lib.hid (rowOf_below RB.out hb4)
    replace RQ := Lib.hid (rowOf_below RQ.out hb4)
    replace RR := Lib.hid (rowOf_below RR.out hb4)
    replace B := Lib.hid (B.out.trans (hb4.mono B.out.size))
    clear rg hb4
    go_wp2_with fail
    refine (fmt_c HX.out _ w4 (tab_below B.out HT.out) RA.out).mono ?_
    rintro e w5 ⟨rfl, hb5⟩
    replace RA := Lib.hid (rowOf_below RA.out hb5)
    replace RB := Lib.hid (rowOf_below RB.out hb5)
    replace RQ := Lib.hid (rowOf_below RQ.out hb5)
    replace RR := Lib.hid (rowOf_below RR.out hb5)
    replace RG := Lib.hid (rowOf_below RG.out hb5)
    replace B := Lib.hid (B.out.trans (hb5.mono B.out.size))
    clear hb5
    go_wp2_with fail
    refine (parse_c HX.out w5).mono ?_
    rintro e w6 ⟨vx, rfl, rx, hb6⟩
    have RX := Lib.hid rx
    replace RA := Lib.hid (rowOf_below RA.out hb6)
    replace RB := Lib.hid (rowOf_below RB.out hb6)
    replace RQ := Lib.hid (rowOf_below RQ.out hb6)
    replace RR := Lib.hid (rowOf_below RR.out hb6)
    replace RG := Lib.hid (rowOf_below RG.out hb6)
    replace B := Lib.hid (B.out.trans (hb6.mono B.out.size))
    clear rx hb6
    go_wp2_with fail
    refine (cmp_c HX.out HX.out _ _ w6 RX.out RA.out).mono ?_
    rintro e w7 ⟨rfl, hb7⟩
    rw [cmpN_eq]
    replace RA := Lib.hid (rowOf_below RA.out hb7)
    replace RB := Lib.hid (rowOf_below RB.out hb7)
    replace RQ := Lib.hid (rowOf_below RQ.out hb7)
    replace RR := Lib.hid (rowOf_below RR.out hb7)
    replace RG := Lib.hid (rowOf_below RG.out hb7)
    replace B := Lib.hid (B.out.trans (hb7.mono B.out.size))
    clear RX hb7
    go_wp2_with fail
    refine (of_c w7).mono ?_
    rintro e w8 ⟨v8, rfl, r8, hb8⟩
    have R8 := Lib.hid r8
    replace RA := Lib.hid (rowOf_below RA.out hb8)
    replace RB := Lib.hid (rowOf_below RB.out hb8)
    replace RQ := Lib.hid (rowOf_below RQ.out hb8)
    replace RR := Lib.hid (rowOf_below RR.out hb8)
    replace RG := Lib.hid (rowOf_below RG.out hb8)
    replace B := Lib.hid (B.out.trans (hb8.mono B.out.size))
    clear r8 hb8
    go_wp2_with fail
    refine (fmt_c nlen_12 _ w8 (tab_below B.out HT.out) R8.out).mono ?_
    rintro e w9 ⟨rfl, hb9⟩
    rw [decT_12]
    replace RA := Lib.hid (rowOf_below RA.out hb9)
    replace RB := Lib.hid (rowOf_below RB.out hb9)
    replace RQ := Lib.hid (rowOf_below RQ.out hb9)
    replace RR := Lib.hid (rowOf_below RR.out hb9)
    replace RG := Lib.hid (rowOf_below RG.out hb9)
    replace B := Lib.hid (B.out.trans (hb9.mono B.out.size))
    clear R8 hb9
    by_cases hy : y = 0
    · subst hy
      have e0 : nlen 0 = 0 := nlen_zero
      have eq : q = 0 := by rw [← HQ.out]; exact Nat.div_zero _
      have er : r = 0 := by rw [← HE.out]; rfl
      subst eq
      subst er
      rw [e0]
      go_wp2
      go_ret
      exact ⟨rfl, B.out⟩
    · have hny : 0 < nlen y := (nlen_pos_iff y).2 (by omega)
      have hn0 : ((nlen y : Int) == 0) = false := by simp; omega
      have HG := Lib.hid (show 0 < Nat.gcd x y from Nat.gcd_pos_of_pos_right _ (by omega))
      have HG3 := Lib.hid (show nlen (Nat.gcd x y) ≤ 3 from nlen_le3 (Nat.gcd_le_right _ (by omega)) HY.out)
      have HER := Lib.hid (show r = x % y by rw [← HE.out]; unfold restN; rw [if_neg hy])
      have HRL := Lib.hid (show r < y by rw [HER.out]; exact Nat.mod_lt _ (by omega))
      have HS := Lib.hid (show q * y + r = x by rw [← HQ.out, HER.out]; exact Nat.div_add_mod' x y)
      have HD := Lib.hid (show restN x (Nat.gcd x y) = 0 by unfold restN; rw [if_neg (by have := HG.out; omega)]; exact Nat.mod_eq_zero_of_dvd (Nat.gcd_dvd_left x y))
      have HQ3 := Lib.hid (show nlen q ≤ 3 from nlen_le3 (by rw [← HQ.out]; exact Nat.div_le_self _ _) HX.out)
      have HR3 := Lib.hid (show nlen r ≤ 3 from nlen_le3 (by rw [HER.out]; exact Nat.mod_le _ _) HX.out)
      have HM3 := Lib.hid (show nlen (q * y) ≤ 3 from nlen_le3 (by have := HS.out; omega) HX.out)
      have HA3 := Lib.hid (show nlen (q * y + r) ≤ 3 by rw [HS.out]; exact HX.out)
      clear hy hny
      go_wp2_with fail
      refine (div_c HX.out HG3.out _ _ w9 RA.out RG.out).mono ?_
      rintro e w10 ⟨ah, ch, at', ct, rfl, _, _, hb10⟩
      rw [HD.out, nlen_zero]
      replace RA := Lib.hid (rowOf_below RA.out hb10)
      replace RB := Lib.hid (rowOf_below RB.out hb10)
      replace RQ := Lib.hid (rowOf_below RQ.out hb10)
      replace RR := Lib.hid (rowOf_below RR.out hb10)
      replace B := Lib.hid (B.out.trans (hb10.mono B.out.size))
      clear RG hb10
      go_wp2_with fail
      refine (mul_c HQ3.out HY.out HM3.out _ _ w10 RQ.out RB.out).mono ?_
      rintro e w11 ⟨vm, rfl, rm, hb11⟩
      have RM := Lib.hid rm
      replace RA := Lib.hid (rowOf_below RA.out hb11)
      replace RB := Lib.hid (rowOf_below RB.out hb11)
      replace RR := Lib.hid (rowOf_below RR.out hb11)
      replace B := Lib.hid (B.out.trans (hb11.mono B.out.size))
      clear rm RQ hb11
      go_wp2_with fail
      refine (add_c HM3.out HR3.out HA3.out _ _ w11 RM.out RR.out).mono ?_
      rintro e w12 ⟨vs, rfl, rs, hb12⟩
      have RS := Lib.hid (show RowOf iV w12 vs (limI x) by rw [← HS.out]; exact rs)
      replace RA := Lib.hid (rowOf_below RA.out hb12)
      replace RB := Lib.hid (rowOf_below RB.out hb12)
      replace RR := Lib.hid (rowOf_below RR.out hb12)
      replace B := Lib.hid (B.out.trans (hb12.mono B.out.size))
      clear rs RM hb12
      go_wp2_with fail
      refine (cmp_c HX.out HX.out _ _ w12 RS.out RA.out).mono ?_
      rintro e w13 ⟨rfl, hb13⟩
      rw [cmpN_eq]
      replace RB := Lib.hid (rowOf_below RB.out hb13)
      replace RR := Lib.hid (rowOf_below RR.out hb13)
      replace B := Lib.hid (B.out.trans (hb13.mono B.out.size))
      clear RS RA hb13
      go_wp2_with fail
      refine (cmp_c HR3.out HY.out _ _ w13 RR.out RB.out).mono ?_
      rintro e w14 ⟨rfl, hb14⟩
      rw [cmpN_lt HRL.out]
      replace B := Lib.hid (B.out.trans (hb14.mono B.out.size))
      clear RR RB hb14
      go_wp2
      go_ret
      exact ⟨rfl, B.out⟩
  · go_enter Tryd.func3, Tryd.ntmps3
    go_wp2
    go_ret
    exact ⟨rfl, Below.refl _ _⟩

end Go.Proofs.YtofmpfcbdemcnaaDoor
