/- FormatInt of the program and FormatInt of the model both write the decimal digits of a number, behind a minus sign where it is negative. -/
import Derived.Test.YtofmpfcbdemcnaaDoorRows1
import Derived.Lib.ItoaNum
import Derived.Lib.ItoaLen
import Derived.Deep.RegionWith
import Derived.WalkSmall
import Derived.Test.YtofmpfcbdemcnaaDoorShelf
namespace Go.Proofs.YtofmpfcbdemcnaaDoor
open Go.RowKit

set_option maxRecDepth 100000
theorem byte48 (n : Nat) : UInt8.ofNat (48 + n) = 48 + UInt8.ofNat n := UInt8.ofNat_add 48 n
theorem dec_small {u : Nat} (h : u < 10) : Lib.decDigits u = [48 + UInt8.ofNat u] := by rw [Lib.decDigits, dif_pos h, byte48]
theorem dec_big {u : Nat} (h : ¬ u < 10) : Lib.decDigits u = Lib.decDigits (u / 10) ++ [48 + UInt8.ofNat (u % 10)] := by rw [Lib.decDigits, dif_neg h, byte48]
theorem dec_len {u : Nat} (h : u < 18446744073709551616) : (Lib.decDigits u).length ≤ 20 := by rw [Lib.decDigits_length]; exact Lib.nDigits_le20 u h
theorem itoa_nat (n : Nat) : Lib.itoa n = Lib.decDigits n := by unfold Lib.itoa; simp
theorem itoa_neg {n : Nat} (h : 0 < n) : Lib.itoa (-(n : Int)) = 45 :: Lib.decDigits n := by
  unfold Lib.itoa
  rw [if_pos (by omega)]
  simp

set_option maxHeartbeats 400000 in
theorem spec_format_nat (n : Nat) (w : World) (h1 : n ≤ 9223372036854775807) :
    Calls Tryd.prog 48 #[.int .i64 n] w fun e w' => e = .returned (.string ⟨(Lib.decDigits n).toArray⟩) ∧ Below w.heap.size w w' := by
  have HL := Lib.hid (fun m (h : m ≤ n) => dec_len (u := m) (by omega))
  go_enter Tryd.func48, Tryd.ntmps48
  go_wp2
  go_loopw [0, 3] (fun kv ov wr => ∃ (m : Nat) (out : List UInt8), m ≤ n ∧ kv = .int .i64 m ∧ ov = .string ⟨out.toArray⟩ ∧ Hid (Lib.decDigits m ++ out = Lib.decDigits n) ∧ out.length ≤ 20 ∧ Below w.heap.size w wr) (fun kv _ _ => (intOf kv).toNat)
  case atStart => exact ⟨n, [], Nat.le_refl _, rfl, rfl, by unfold Hid; simp, by simp, Below.refl _ _⟩
  case round =>
    obtain ⟨m, out, hm, rfl, rfl, HD, ho, hb⟩ := hrel
    by_cases hp : 9 < m
    · have hcv := one_byte_string wr (48 + (m : Int) % 10) (by omega) (by omega)
      have HS := Lib.hid (dec_big (u := m) (by omega))
      have HL2 := Lib.hid (HL.out n (Nat.le_refl _))
      go_wp2
      go_roundw
      case rel =>
        refine ⟨m / 10, (48 + UInt8.ofNat (m % 10)) :: out, by omega, by go_num, ?_, ?_, ?_, hb.alloc (by have := hb.size; omega) _⟩
        · rw [show (⟨#[48 + UInt8.ofNat (m % 10)]⟩ : ByteArray) = ⟨[48 + UInt8.ofNat (m % 10)].toArray⟩ from rfl, ByteArray.mk_append_mk]; rfl
        · have h := HD.out
          rw [HS.out, List.append_assoc] at h
          exact h
        · have h := congrArg List.length HD.out
          rw [HS.out] at h
          simp at h
          have := HL2.out
          simp; omega
      case measure => simp [intOf]; omega
    · have hcv := one_byte_string wr (48 + (m : Int)) (by omega) (by omega)
      have HS := Lib.hid (dec_small (u := m) (by omega))
      go_wp2
      go_ret
      refine ⟨?_, hb.alloc (by have := hb.size; omega) _⟩
      have h := HD.out
      rw [HS.out] at h
      rw [← h]
      exact congrArg (fun b => Ending.returned (Value.string b)) (ByteArray.mk_append_mk [48 + UInt8.ofNat m] out)

theorem spec_format_neg1 (n : Nat) (hn' : n < 10) (h0 : 0 < n) (w : World) :
    Calls Tryd.prog 48 #[.int .i64 (-(n : Int))] w fun e w' => e = .returned (.string ⟨(45 :: Lib.decDigits n).toArray⟩) ∧ Below w.heap.size w w' := by
  have HS := Lib.hid (dec_small (u := n) (by omega))
  have hq : (-(n : Int)).tdiv 10 = 0 := by
    rw [Int.neg_tdiv]; simp; omega
  have hcv := one_byte_string w (48 + (n : Int)) (by omega) (by omega)
  go_enter Tryd.func48, Tryd.ntmps48
  go_wp2
  go_ret
  refine ⟨?_, (Below.refl _ w).alloc (Nat.le_refl _) _⟩
  rw [HS.out]
  exact congrArg (fun b => Ending.returned (Value.string b)) (ByteArray.mk_append_mk [45] [48 + UInt8.ofNat n])

theorem one_byte_string' (x : Int) (h0 : 0 ≤ x) (h1 : x ≤ 255) (g : Nat) (w : World) (hc : w.cell? ⟨g, 0, none⟩ = some (.int .u8 x)) :
    (convert 22 9 (.slice (some ⟨g, 0, none⟩) 1 1)).run Tryd.prog w = .ok (.string ⟨#[UInt8.ofNat x.toNat]⟩) w := by
  have e : ((UInt8.ofNat x.toNat).toNat : Int) = x := by
    rw [UInt8.toNat_ofNat']; omega
  refine run_convert_bytes_back _ _ _ 5 _ 1 [UInt8.ofNat x.toNat] Tryd.underlying22 Tryd.underlying5 Tryd.underlying9 ?_
  intro j hj
  obtain rfl : j = 0 := by simpa using hj
  simp only [List.getElem_cons_zero, e]
  exact hc

set_option maxHeartbeats 400000 in
theorem spec_format_neg : ∀ (d n : Nat), n < 10 ^ (d + 1) → 0 < n → n ≤ 9223372036854775808 → ∀ w : World,
    Calls Tryd.prog 48 #[.int .i64 (-(n : Int))] w fun e w' => e = .returned (.string ⟨(45 :: Lib.decDigits n).toArray⟩) ∧ Below w.heap.size w w' := by
  intro d
  induction d with
  | zero =>
    intro n hn h0 h1 w
    exact spec_format_neg1 n (by simpa using hn) h0 w
  | succ d ih =>
    intro n hn h0 h1 w
    by_cases h10 : n < 10
    · exact spec_format_neg1 n h10 h0 w
    have HS := Lib.hid (dec_big (u := n) (by omega))
    have IH := Lib.hid (show ∀ w : World, Calls Tryd.prog 48 #[.int .i64 (-((n : Int) / 10))] w fun e w' => e = .returned (.string ⟨(45 :: Lib.decDigits (n / 10)).toArray⟩) ∧ Below w.heap.size w w' from ih (n / 10) (by rw [Nat.pow_succ] at hn; omega) (by omega) (by omega))
    clear ih hn
    have hq : (-(n : Int)).tdiv 10 = -((n / 10 : Nat) : Int) := by rw [Int.neg_tdiv]; rfl
    have hr : (-(n : Int)).tmod 10 = -((n % 10 : Nat) : Int) := by rw [Int.neg_tmod]; rfl
    have hz : (-((n : Int) / 10) == 0) = false := by simp; omega
    have hbs := one_byte_string' (48 + (n : Int) % 10) (by omega) (by omega)
    go_enter Tryd.func48, Tryd.ntmps48
    go_wp2_with fail
    have hlen := dec_len (u := n / 10) (by omega)
    have w1' : IntKind.i64.wrap (-((n : Int) / 10)) = -((n : Int) / 10) := IntWalk.i64_in _ (by omega)
    have w2' : IntKind.i64.wrap (48 + (n : Int) % 10) = 48 + (n : Int) % 10 := IntWalk.i64_in _ (by omega)
    have w3' : IntKind.u8.wrap (48 + (n : Int) % 10) = 48 + (n : Int) % 10 := IntWalk.u8_in _ (by omega)
    go_region_with (go_at_call 48; refine (IH.out _).mono ?_; rintro e w1 ⟨rfl, hb1⟩; have hcc := hb1.cell (p := ⟨w.heap.size, 0, none⟩))
    all_goals go_wp2
    all_goals go_ret
    all_goals refine ⟨?_, ?_⟩
    all_goals first
      | exact (((Below.refl _ w).drew).trans hb1).alloc (by have := hb1.size; exact this) _
      | exact ((((Below.refl _ w).alloc (Nat.le_refl _) _).drew).trans (hb1.mono (by simp)))
      | skip
    all_goals
      rw [HS.out, ← List.cons_append, ← byte48]
      exact congrArg (fun b => Ending.returned (Value.string b)) (ByteArray.mk_append_mk (45 :: Lib.decDigits (n / 10)) [UInt8.ofNat (48 + n % 10)])

theorem spec_format (n : Int) (w : World) (h0 : -9223372036854775808 ≤ n) (h1 : n ≤ 9223372036854775807) :
    Calls Tryd.prog 48 #[.int .i64 n] w fun e w' => e = .returned (.string ⟨(Lib.itoa n).toArray⟩) ∧ Below w.heap.size w w' := by
  by_cases hn : n < 0
  · obtain ⟨m, hm⟩ := Int.eq_ofNat_of_zero_le (show 0 ≤ -n by omega)
    obtain rfl : n = -(m : Int) := by omega
    rw [itoa_neg (by omega)]
    exact spec_format_neg 19 m (by omega) (by omega) (by omega) w
  · obtain ⟨m, rfl⟩ := Int.eq_ofNat_of_zero_le (show 0 ≤ n by omega)
    rw [itoa_nat]
    exact spec_format_nat m w (by omega)

/-- the world behind Itoa: new blocks and draws alone -/
theorem below_grow {B : Nat} {a w : World} (h : Below B a w) (hB : B ≤ w.heap.size) (k : Nat) (os : Array Obj) : Below B a (Sort.grow (w.drewN k) os) :=
  h.trans ⟨rfl, rfl, rfl, by show w.heap.size ≤ (w.heap ++ os).size; simp, fun i hi => by
    show (w.heap ++ os)[i]? = _
    rw [Array.getElem?_append_left (by omega)]⟩

theorem impl_format (n : Int) (w : World) (h0 : -9223372036854775808 ≤ n) (h1 : n ≤ 9223372036854775807) (htab : Lib.TabIs Tryd.prog w "internal/strconv.uint64pow10" .u64 Lib.pow10Tab) :
    Calls Tryd.prog 65 #[.int .i64 n] w fun e w' => e = .returned (.string ⟨(Lib.itoa n).toArray⟩) ∧ Below w.heap.size w w' := by
  have HI := Lib.hid (Tryd.strconv_Itoa n h0 h1 w htab)
  clear htab
  go_enter Tryd.func65, Tryd.ntmps65
  go_wp2_with fail
  refine HI.out.mono ?_
  rintro e w1 ⟨rfl, k, os, rfl⟩
  go_wp2_with fail
  go_ret
  exact ⟨rfl, below_grow (Below.refl _ _) (Nat.le_refl _) k os⟩


theorem var_below {P : Program} {w w1 : World} {n : String} {cs : Array Value} (h : Below w.heap.size w w1) (hv : w.var? P n = some cs) : w1.var? P n = some cs := by
  unfold World.var? at hv ⊢
  cases hg : P.globalNamed n with
  | none => rw [hg] at hv; simp at hv
  | some g =>
    rw [hg] at hv
    simp only [Option.bind_some] at hv ⊢
    have : g < w.heap.size := by
      cases hh : w.heap[g]? with
      | none => rw [hh] at hv; simp at hv
      | some o => exact (Array.getElem?_eq_some_iff.1 hh).1
    rw [h.block g this]
    exact hv
theorem tab_below {w w1 : World} (h : Below w.heap.size w w1) (ht : Lib.TabIs Tryd.prog w "internal/strconv.uint64pow10" .u64 Lib.pow10Tab) : Lib.TabIs Tryd.prog w1 "internal/strconv.uint64pow10" .u64 Lib.pow10Tab := var_below h ht

end Go.Proofs.YtofmpfcbdemcnaaDoor
