/- The cursor over the drawn bytes that the laws make their inputs with: what one step of it does. -/
import Derived.Test.YtojklmckjebplaaBase
import Derived.WalkSmall
import Derived.BigQuiet
import Derived.Deep.QuietTactic
namespace Go.Proofs.Ytojklmckjebplaa
open Go.RowKit

def u8V (c : UInt8) : Value := .int .u8 (c.toNat : Int)
/-- the cursor in block cb, over the slice v -/
def CurAt (w : World) (cb : Nat) (v : Value) (n : Nat) : Prop := ∃ i h : Int, 0 ≤ i ∧ i ≤ n ∧ w.heap[cb]? = some (.cells #[v, .int .i64 i, .int .i64 h] 114 (0, 0))

theorem cell_of_heap {w : World} {g : Nat} {cs : Array Value} {t : TypeId} {fz : Nat × Nat} (h : w.heap[g]? = some (.cells cs t fz)) (j : Nat) : w.cell? ⟨g, j, none⟩ = cs[j]? := by
  simp [World.cell?, h]
theorem frozen_of_heap {w : World} {g : Nat} {cs : Array Value} {t : TypeId} (h : w.heap[g]? = some (.cells cs t (0, 0))) (j : Nat) : w.frozen? ⟨g, j, none⟩ = false := by
  simp [World.frozen?, h]
theorem heap_setCell_same {w : World} {g : Nat} {cs : Array Value} {t : TypeId} {fz : Nat × Nat} (h : w.heap[g]? = some (.cells cs t fz)) (j : Nat) (x : Value) : (w.setCell ⟨g, j, none⟩ x).heap[g]? = some (.cells (cs.setIfInBounds j x) t fz) := by
  simp [World.setCell, Array.getElem?_modify, h]

theorem grown_setCell (w : World) (g j : Nat) (x : Value) : w.grownBy (w.setCell ⟨g, j, none⟩ x) (some g) :=
  ⟨rfl, rfl, rfl, by simp [World.setCell], fun k _ hk => Below.heap_setCell _ _ _ _ (fun e => hk (by rw [e]))⟩
theorem grown_drew {a b : World} {row : Option Nat} (h : a.grownBy b row) : a.grownBy b.drew row := ⟨h.os, h.tape, h.output, h.size, h.block⟩
theorem grown_trans {a b c : World} {row : Option Nat} (h : a.grownBy b row) (k : b.grownBy c row) : a.grownBy c row := grownBy_trans h k
theorem i64_and_mask (n : Int) (j : Nat) (hj : j < 63) : bits .and .i64 n ((2 ^ j - 1 : Nat) : Int) = n % ((2 ^ j : Nat) : Int) := by
  have hp : 2 ^ j < 2 ^ 63 := Nat.pow_lt_pow_right (by decide) hj
  have hm : (BitVec.ofInt 64 ((2 ^ j - 1 : Nat) : Int)).toNat = 2 ^ j - 1 := by
    rw [BitVec.toNat_ofInt]; have : (2 : Nat) ^ 63 = 9223372036854775808 := rfl; have : (2 : Nat) ^ 64 = 18446744073709551616 := rfl; omega
  have key : (BitVec.ofInt 64 n &&& BitVec.ofInt 64 ((2 ^ j - 1 : Nat) : Int)).toNat = (n % ((2 ^ 64 : Nat) : Int)).toNat % 2 ^ j := by
    rw [BitVec.toNat_and, BitVec.toNat_ofInt, hm, Nat.and_two_pow_sub_one_eq_mod]
  show IntKind.i64.wrap ((BitVec.ofInt 64 n &&& BitVec.ofInt 64 ((2 ^ j - 1 : Nat) : Int)).toNat : Nat) = _
  have hpos : 0 < 2 ^ j := Nat.two_pow_pos j
  have h64 : (2 : Nat) ^ 64 = 2 ^ j * 2 ^ (64 - j) := by rw [← Nat.pow_add]; congr 1; omega
  have hmod : ((n % ((2 ^ 64 : Nat) : Int)).toNat % 2 ^ j : Nat) = (n % ((2 ^ j : Nat) : Int)) := by
    have h0 : 0 ≤ n % ((2 ^ 64 : Nat) : Int) := Int.emod_nonneg _ (by have : (2 : Nat) ^ 64 = 18446744073709551616 := rfl; omega)
    rw [Int.natCast_emod, Int.toNat_of_nonneg h0, h64, Int.natCast_mul]
    exact Int.emod_emod_of_dvd n (Int.dvd_mul_right _ _)
  rw [key, IntWalk.i64_in _ ⟨by omega, by have := Nat.mod_lt (n % ((2 ^ 64 : Nat) : Int)).toNat hpos; have : (2 : Nat) ^ 63 = 9223372036854775808 := rfl; omega⟩, hmod]
theorem i64_and255 (n : Int) : bits .and .i64 n 255 = n % 256 := i64_and_mask n 8 (by decide)
theorem i64_and30 (n : Int) : bits .and .i64 n 1073741823 = n % 1073741824 := i64_and_mask n 30 (by decide)

set_option maxHeartbeats 1000000 in
theorem cur_byte (cb : Nat) (a : Option Addr) (cap : Nat) (bs : List UInt8) (w : World) (hc : CurAt w cb (.slice a bs.length cap) bs.length) (hm : bs.length ≤ maxLen)
    (hr : ∀ i (h : i < bs.length), ∃ b o, a = some ⟨b, o, none⟩ ∧ b ≠ cb ∧ w.cell? ⟨b, o + i, none⟩ = some (u8V (bs[i]'h))) :
    Calls Try.prog 82 #[.pointer (some ⟨cb, 0, none⟩)] w fun e w' => (∃ x : Int, e = .returned (.int .i64 x) ∧ 0 ≤ x ∧ x ≤ 255) ∧ CurAt w' cb (.slice a bs.length cap) bs.length ∧ w.grownBy w' (some cb) := by
  obtain ⟨i, h, hi0, hi1, hh⟩ := hc
  obtain ⟨i, rfl⟩ := Int.eq_ofNat_of_zero_le hi0
  unfold maxLen at hm
  have hx0 := cell_of_heap hh 0
  have hx1 := cell_of_heap hh 1
  have hx2 := cell_of_heap hh 2
  have hf1 := frozen_of_heap hh 1
  have hf2 := frozen_of_heap hh 2
  simp only [List.getElem?_toArray, List.getElem?_cons_zero, List.getElem?_cons_succ] at hx0 hx1 hx2
  have R := Lib.hid hr
  have H := Lib.hid hh
  clear hr hh
  obtain ⟨n, hn⟩ : ∃ n, bs.length = n := ⟨_, rfl⟩
  rw [hn] at hi1 hm hx0 ⊢
  have HN := Lib.hid hn
  clear hn hi0
  have h255 := i64_and255
  by_cases hlt : i < n
  · obtain ⟨b, o, rfl, hne, hx⟩ := R.out i (by rw [HN.out]; exact hlt)
    obtain ⟨c, hcv⟩ : ∃ c : Nat, (bs[i]'(by rw [HN.out]; exact hlt)).toNat = c := ⟨_, rfl⟩
    unfold u8V at hx
    rw [hcv] at hx
    have hc256 : c < 256 := by rw [← hcv]; exact UInt8.toNat_lt _
    clear hcv R
    go_enter Try.func82, Try.ntmps82
    go_wp2
    go_region
    go_wp2
    go_region
    go_wp2
    go_region
    go_wp2
    go_ret
    refine ⟨⟨_, rfl, by omega, by omega⟩, ?_, ?_⟩
    · refine ⟨(i : Int) + 1, wrap64 (wrap64 (h * 6364136223846793005) + 1442695040888963407), by omega, by omega, ?_⟩
      exact (heap_setCell_same (heap_setCell_same (by have := H.out; rw [HN.out] at this; exact this) 2 _) 1 _).trans rfl
    · exact grown_drew (grown_drew (grown_drew (grown_trans (grown_setCell _ _ _ _) (grown_setCell _ _ _ _))))
  · go_enter Try.func82, Try.ntmps82
    go_wp2
    go_region
    go_wp2
    go_region
    go_wp2
    go_ret
    refine ⟨⟨_, rfl, by omega, by omega⟩, ?_, ?_⟩
    · refine ⟨(i : Int), wrap64 (wrap64 (h * 6364136223846793005) + 1442695040888963407), by omega, by omega, ?_⟩
      exact (heap_setCell_same (by have := H.out; rw [HN.out] at this; exact this) 2 _).trans rfl
    · exact grown_drew (grown_drew (grown_setCell _ _ _ _))


/-- a cursor of the call's own over a row of bytes that came in -/
structure Cur (W0 w : World) (cb : Nat) (v : Value) (bs : List UInt8) : Prop where
  pos : CurAt w cb v bs.length
  lo : W0.heap.size ≤ cb
  below : Below W0.heap.size W0 w
  row : RowOf u8V W0 v bs
theorem Cur.lt {W0 w : World} {cb : Nat} {v : Value} {bs : List UInt8} (h : Cur W0 w cb v bs) : cb < w.heap.size := by
  obtain ⟨i, k, _, _, hh⟩ := h.pos
  exact (Array.getElem?_eq_some_iff.1 hh).1
/-- new blocks and stores elsewhere leave a cursor as it was -/
theorem Cur.kept {W0 w w' : World} {cb : Nat} {v : Value} {bs : List UInt8} {row : Option Nat} (h : Cur W0 w cb v bs) (hg : w.grownBy w' row) (hne : ∀ g, row = some g → W0.heap.size ≤ g ∧ g ≠ cb) : Cur W0 w' cb v bs := by
  obtain ⟨i, k, h1, h2, hh⟩ := h.pos
  refine ⟨⟨i, k, h1, h2, (hg.block cb h.lt (fun e => (hne cb e.symm).2 rfl)).trans hh⟩, h.lo, h.below.grown hg h.below.size (fun g hg => (hne g hg).1), h.row⟩
theorem cur_step (W0 w : World) (cb : Nat) (v : Value) (bs : List UInt8) (h : Cur W0 w cb v bs) :
    Calls Try.prog 82 #[.pointer (some ⟨cb, 0, none⟩)] w fun e w' => (∃ x : Int, e = .returned (.int .i64 x) ∧ 0 ≤ x ∧ x ≤ 255) ∧ Cur W0 w' cb v bs ∧ w.grownBy w' (some cb) := by
  obtain ⟨a, cap, rfl, h1, h2, hr⟩ := h.row
  refine (cur_byte cb a cap bs w h.pos (by omega) (fun i hi => ?_)).mono ?_
  · obtain ⟨b, o, ha, hx⟩ := hr i hi
    have hb := World.block_lt_of_cell? W0 _ hx
    simp at hb
    exact ⟨b, o, ha, by have := h.lo; omega, (h.below.cell (p := ⟨b, o + i, none⟩) hb).trans hx⟩
  · rintro e w' ⟨hx, hc, hg⟩
    exact ⟨hx, ⟨hc, h.lo, h.below.grown hg (by have := h.below.size; exact this) (fun g hg => by simp at hg; subst hg; exact h.lo), h.row⟩, hg⟩

set_option maxHeartbeats 400000 in
theorem cur_new (v : Value) (bs : List UInt8) (w : World) (h : RowOf u8V w v bs) (hn : bs.length ≤ 1048576) :
    Calls Try.prog 81 #[v] w fun e w' => ∃ cb, e = .returned (.pointer (some ⟨cb, 0, none⟩)) ∧ Cur w w' cb v bs := by
  have H := Lib.hid h
  obtain ⟨a, cap, rfl, hc, hm, hr⟩ := h
  unfold maxLen at hm
  have R := Lib.hid hr
  clear hr
  obtain ⟨n, hnn⟩ : ∃ n, bs.length = n := ⟨_, rfl⟩
  rw [hnn] at hc hn H ⊢
  have HN := Lib.hid hnn
  clear hnn
  have hand := i64_and30
  go_enter Try.func81, Try.ntmps81
  go_wp2
  go_loop [3, 4] (fun hv iv => ∃ (k : Nat) (h : Int), k ≤ n ∧ hv = .int .i64 h ∧ iv = .int .i64 k) (fun _ iv => n - (intOf iv).toNat)
  case atStart => exact ⟨0, _, Nat.zero_le _, rfl, rfl⟩
  case round =>
    obtain ⟨k, h, hk, rfl, rfl⟩ := hrel
    by_cases hlt : k < n ∧ k < 4000
    · obtain ⟨hlt, h4n⟩ := hlt
      have h4 : (k : Int) < 4000 := by omega
      clear h4n
      obtain ⟨b, o, rfl, hx⟩ := R.out k (by rw [HN.out]; exact hlt)
      obtain ⟨c, hcv⟩ : ∃ c : Nat, (bs[k]'(by rw [HN.out]; exact hlt)).toNat = c := ⟨_, rfl⟩
      unfold u8V at hx
      rw [hcv] at hx
      have hc256 : c < 256 := by rw [← hcv]; exact UInt8.toNat_lt _
      clear hcv R
      go_wp2
      go_round
      case rel => exact ⟨k + 1, _, by omega, rfl, by go_num⟩
      case measure => simp [intOf]; omega
    · by_cases hk2 : k < n
      · have h4 : decide ((k : Int) < 4000) = false := by simp; omega
        clear hlt
        go_wp2
        go_ret
        refine ⟨_, rfl, ⟨0, h, Int.le_refl _, by omega, ?_⟩, Nat.le_refl _, (Below.refl _ w).alloc (Nat.le_refl _) _, ?_⟩
        · exact heap_alloc_new w _
        · exact H.out
      · clear hlt
        go_wp2
        go_ret
        refine ⟨_, rfl, ⟨0, h, Int.le_refl _, by omega, ?_⟩, Nat.le_refl _, (Below.refl _ w).alloc (Nat.le_refl _) _, ?_⟩
        · exact heap_alloc_new w _
        · exact H.out


set_option maxHeartbeats 400000 in
theorem cur_new30 (v : Value) (bs : List UInt8) (j : Int) (w : World) (h : RowOf u8V w v bs) (hn : bs.length ≤ 1048576) (hj : j ≤ 1000000) :
    Calls Try.prog 49 #[v, .int .i64 j] w fun e w' => ∃ cb, e = .returned (.pointer (some ⟨cb, 0, none⟩)) ∧ Cur w w' cb v bs := by
  have H := Lib.hid h
  clear h
  go_enter Try.func49, Try.ntmps49
  go_wp2_with fail
  refine (cur_new v bs _ H.out hn).mono ?_
  rintro e w1 ⟨cb, rfl, hc⟩
  have HC := Lib.hid hc
  clear hc
  go_wp2
  go_loopw [6] (fun iv wr => ∃ (k : Int), 0 ≤ k ∧ k ≤ 1000001 ∧ iv = .int .i64 k ∧ Hid (Cur w wr cb v bs)) (fun iv _ => (j - intOf iv).toNat)
  case atStart => exact ⟨0, by omega, by omega, rfl, HC.out⟩
  case round =>
    obtain ⟨k, hk0, hk1, rfl, HK⟩ := hrel
    by_cases hlt : k < j
    · go_wp2_with fail
      refine (cur_step w wr cb v bs HK.out).mono ?_
      rintro e w2 ⟨⟨x, rfl, _, _⟩, hc2, _⟩
      have HC2 := Lib.hid hc2
      clear hc2
      go_wp2
      go_roundw
      case rel => exact ⟨k + 1, by omega, by omega, rfl, HC2.out⟩
      case measure => simp [intOf]; omega
    · go_wp2
      go_ret
      exact ⟨cb, rfl, HK.out⟩

set_option maxHeartbeats 400000 in
theorem cur_below (W0 w : World) (cb : Nat) (v : Value) (bs : List UInt8) (n : Int) (h : Cur W0 w cb v bs) (hn : 0 < n) (hn2 : n ≤ 256) :
    Calls Try.prog 113 #[.pointer (some ⟨cb, 0, none⟩), .int .i64 n] w fun e w' => (∃ x : Int, e = .returned (.int .i64 x) ∧ 0 ≤ x ∧ x < n) ∧ Cur W0 w' cb v bs ∧ w.grownBy w' (some cb) := by
  have H := Lib.hid h
  clear h
  go_enter Try.func113, Try.ntmps113
  go_wp2_with fail
  refine (cur_step W0 w cb v bs H.out).mono ?_
  rintro e w1 ⟨⟨x, rfl, h0, h1⟩, hc, hg⟩
  have HC := Lib.hid (And.intro hc hg)
  clear hc hg
  go_wp2
  go_ret
  exact ⟨⟨_, rfl, Int.emod_nonneg _ (by omega), Int.emod_lt_of_pos _ hn⟩, HC.out.1, HC.out.2⟩

def words5 : List ByteArray := [⟨#[97]⟩, ⟨#[98, 99]⟩, ⟨#[32]⟩, ⟨#[44]⟩, ⟨#[120, 49]⟩]
theorem words5_size (s : ByteArray) (h : s ∈ words5) : s.size ≤ 2 := by
  simp only [words5, List.mem_cons, List.not_mem_nil, or_false] at h
  rcases h with rfl | rfl | rfl | rfl | rfl <;> decide

end Go.Proofs.Ytojklmckjebplaa
