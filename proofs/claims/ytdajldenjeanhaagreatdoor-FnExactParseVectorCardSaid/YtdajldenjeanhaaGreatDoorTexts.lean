/- Texts: Format Join2 Pad FmtNat Text FmtLaw. -/
import Derived.Test.YtdajldenjeanhaaGreatDoorBase
import Derived.Lib.ItoaNum
import Derived.Lib.ItoaLen
import Derived.Deep.RegionWith
import Derived.WalkSmall
import Derived.Test.YtdajldenjeanhaaGreatDoorShelf
import Derived.Test.YtdajldenjeanhaaGreatDoorParts
import Derived.Test.YtdajldenjeanhaaGreatDoorNumb
import Derived.Test.YtdajldenjeanhaaGreatDoorSums
import Derived.Sort.CutIn
import Derived.Sort.QuietIn
import Derived.Sort.QuietTacIn
import Derived.Sort.BigQuietIn
import Derived.Stop.RegionWithIn
import Derived.Deep.RegionHeld3
/-! Format -/
namespace Go.Proofs.YtdajldenjeanhaaGreatDoor
set_option maxRecDepth 100000
set_option linter.unusedVariables false
set_option linter.unusedSimpArgs false
open Go.RowKit

set_option maxRecDepth 100000
theorem byte48 (n : Nat) : UInt8.ofNat (48 + n) = 48 + UInt8.ofNat n := UInt8.ofNat_add 48 n
theorem dec_small {u : Nat} (h : u < 10) : Lib.decDigits u = [48 + UInt8.ofNat u] := by rw [Lib.decDigits, dif_pos h, byte48]
theorem dec_big {u : Nat} (h : ¬ u < 10) : Lib.decDigits u = Lib.decDigits (u / 10) ++ [48 + UInt8.ofNat (u % 10)] := by rw [Lib.decDigits, dif_neg h, byte48]
theorem dec_len {u : Nat} (h : u < 18446744073709551616) : (Lib.decDigits u).length ≤ 20 := by rw [Lib.decDigits_length]; exact Lib.nDigits_le20 u h
theorem itoa_nat (n : Nat) : Lib.itoa n = Lib.decDigits n := by unfold Lib.itoa; simp
theorem itoa_neg {n : Nat} (h : 0 < n) : Lib.itoa (-(n : Int)) = 45 :: Lib.decDigits n := by
  unfold Lib.itoa
  rw [if_pos (by omega)]
  simp

set_option maxHeartbeats 400000 in
theorem spec_format_nat (n : Nat) (w : World) (h1 : n ≤ 9223372036854775807) :
    Calls Tryz.prog 52 #[.int .i64 n] w fun e w' => e = .returned (.string ⟨(Lib.decDigits n).toArray⟩) ∧ Below w.heap.size w w' := by
  have HL := Lib.hid (fun m (h : m ≤ n) => dec_len (u := m) (by omega))
  go_enter Tryz.func52, Tryz.ntmps52
  go_wp2
  go_loopw [0, 3] (fun kv ov wr => ∃ (m : Nat) (out : List UInt8), m ≤ n ∧ kv = .int .i64 m ∧ ov = .string ⟨out.toArray⟩ ∧ Hid (Lib.decDigits m ++ out = Lib.decDigits n) ∧ out.length ≤ 20 ∧ Below w.heap.size w wr) (fun kv _ _ => (intOf kv).toNat)
  case atStart => exact ⟨n, [], Nat.le_refl _, rfl, rfl, by unfold Hid; simp, by simp, Below.refl _ _⟩
  case round =>
    obtain ⟨m, out, hm, rfl, rfl, HD, ho, hb⟩ := hrel
    by_cases hp : 9 < m
    · have hcv := one_byte_string wr (48 + (m : Int) % 10) (by omega) (by omega)
      have HS := Lib.hid (dec_big (u := m) (by omega))
      have HL2 := Lib.hid (HL.out n (Nat.le_refl _))
      go_wp2
      go_roundw
      case rel =>
        refine ⟨m / 10, (48 + UInt8.ofNat (m % 10)) :: out, by omega, by go_num, ?_, ?_, ?_, hb.alloc (by have := hb.size; omega) _⟩
        · rw [show (⟨#[48 + UInt8.ofNat (m % 10)]⟩ : ByteArray) = ⟨[48 + UInt8.ofNat (m % 10)].toArray⟩ from rfl, ByteArray.mk_append_mk]; rfl
        · have h := HD.out
          rw [HS.out, List.append_assoc] at h
          exact h
        · have h := congrArg List.length HD.out
          rw [HS.out] at h
          simp at h
          have := HL2.out
          simp; omega
      case measure => simp [intOf]; omega
    · have hcv := one_byte_string wr (48 + (m : Int)) (by omega) (by omega)
      have HS := Lib.hid (dec_small (u := m) (by omega))
      go_wp2
      go_ret
      refine ⟨?_, hb.alloc (by have := hb.size; omega) _⟩
      have h := HD.out
      rw [HS.out] at h
      rw [← h]
      exact congrArg (fun b => Ending.returned (Value.string b)) (ByteArray.mk_append_mk [48 + UInt8.ofNat m] out)

theorem spec_format_neg1 (n : Nat) (hn' : n < 10) (h0 : 0 < n) (w : World) :
    Calls Tryz.prog 52 #[.int .i64 (-(n : Int))] w fun e w' => e = .returned (.string ⟨(45 :: Lib.decDigits n).toArray⟩) ∧ Below w.heap.size w w' := by
  have HS := Lib.hid (dec_small (u := n) (by omega))
  have hq : (-(n : Int)).tdiv 10 = 0 := by
    rw [Int.neg_tdiv]; simp; omega
  have hcv := one_byte_string w (48 + (n : Int)) (by omega) (by omega)
  go_enter Tryz.func52, Tryz.ntmps52
  go_wp2
  go_ret
  refine ⟨?_, (Below.refl _ w).alloc (Nat.le_refl _) _⟩
  rw [HS.out]
  exact congrArg (fun b => Ending.returned (Value.string b)) (ByteArray.mk_append_mk [45] [48 + UInt8.ofNat n])

theorem one_byte_string' (x : Int) (h0 : 0 ≤ x) (h1 : x ≤ 255) (g : Nat) (w : World) (hc : w.cell? ⟨g, 0, none⟩ = some (.int .u8 x)) :
    (convert 91 9 (.slice (some ⟨g, 0, none⟩) 1 1)).run Tryz.prog w = .ok (.string ⟨#[UInt8.ofNat x.toNat]⟩) w := by
  have e : ((UInt8.ofNat x.toNat).toNat : Int) = x := by
    rw [UInt8.toNat_ofNat']; omega
  refine run_convert_bytes_back _ _ _ 5 _ 1 [UInt8.ofNat x.toNat] Tryz.underlying91 Tryz.underlying5 Tryz.underlying9 ?_
  intro j hj
  obtain rfl : j = 0 := by simpa using hj
  simp only [List.getElem_cons_zero, e]
  exact hc

set_option maxHeartbeats 400000 in
theorem spec_format_neg : ∀ (d n : Nat), n < 10 ^ (d + 1) → 0 < n → n ≤ 9223372036854775808 → ∀ w : World,
    Calls Tryz.prog 52 #[.int .i64 (-(n : Int))] w fun e w' => e = .returned (.string ⟨(45 :: Lib.decDigits n).toArray⟩) ∧ Below w.heap.size w w' := by
  intro d
  induction d with
  | zero =>
    intro n hn h0 h1 w
    exact spec_format_neg1 n (by simpa using hn) h0 w
  | succ d ih =>
    intro n hn h0 h1 w
    by_cases h10 : n < 10
    · exact spec_format_neg1 n h10 h0 w
    have HS := Lib.hid (dec_big (u := n) (by omega))
    have IH := Lib.hid (show ∀ w : World, Calls Tryz.prog 52 #[.int .i64 (-((n : Int) / 10))] w fun e w' => e = .returned (.string ⟨(45 :: Lib.decDigits (n / 10)).toArray⟩) ∧ Below w.heap.size w w' from ih (n / 10) (by rw [Nat.pow_succ] at hn; omega) (by omega) (by omega))
    clear ih hn
    have hq : (-(n : Int)).tdiv 10 = -((n / 10 : Nat) : Int) := by rw [Int.neg_tdiv]; rfl
    have hr : (-(n : Int)).tmod 10 = -((n % 10 : Nat) : Int) := by rw [Int.neg_tmod]; rfl
    have hz : (-((n : Int) / 10) == 0) = false := by simp; omega
    have hbs := one_byte_string' (48 + (n : Int) % 10) (by omega) (by omega)
    go_enter Tryz.func52, Tryz.ntmps52
    go_wp2_with fail
    have hlen := dec_len (u := n / 10) (by omega)
    have w1' : IntKind.i64.wrap (-((n : Int) / 10)) = -((n : Int) / 10) := IntWalk.i64_in _ (by omega)
    have w2' : IntKind.i64.wrap (48 + (n : Int) % 10) = 48 + (n : Int) % 10 := IntWalk.i64_in _ (by omega)
    have w3' : IntKind.u8.wrap (48 + (n : Int) % 10) = 48 + (n : Int) % 10 := IntWalk.u8_in _ (by omega)
    go_region_with (go_at_call 52; refine (IH.out _).mono ?_; rintro e w1 ⟨rfl, hb1⟩; have hcc := hb1.cell (p := ⟨w.heap.size, 0, none⟩))
    all_goals go_wp2
    all_goals go_ret
    all_goals refine ⟨?_, ?_⟩
    all_goals first
      | exact (((Below.refl _ w).drew).trans hb1).alloc (by have := hb1.size; exact this) _
      | exact ((((Below.refl _ w).alloc (Nat.le_refl _) _).drew).trans (hb1.mono (by simp)))
      | skip
    all_goals
      rw [HS.out, ← List.cons_append, ← byte48]
      exact congrArg (fun b => Ending.returned (Value.string b)) (ByteArray.mk_append_mk (45 :: Lib.decDigits (n / 10)) [UInt8.ofNat (48 + n % 10)])

theorem spec_format (n : Int) (w : World) (h0 : -9223372036854775808 ≤ n) (h1 : n ≤ 9223372036854775807) :
    Calls Tryz.prog 52 #[.int .i64 n] w fun e w' => e = .returned (.string ⟨(Lib.itoa n).toArray⟩) ∧ Below w.heap.size w w' := by
  by_cases hn : n < 0
  · obtain ⟨m, hm⟩ := Int.eq_ofNat_of_zero_le (show 0 ≤ -n by omega)
    obtain rfl : n = -(m : Int) := by omega
    rw [itoa_neg (by omega)]
    exact spec_format_neg 19 m (by omega) (by omega) (by omega) w
  · obtain ⟨m, rfl⟩ := Int.eq_ofNat_of_zero_le (show 0 ≤ n by omega)
    rw [itoa_nat]
    exact spec_format_nat m w (by omega)

/-- the world behind Itoa: new blocks and draws alone -/
theorem below_grow {B : Nat} {a w : World} (h : Below B a w) (hB : B ≤ w.heap.size) (k : Nat) (os : Array Obj) : Below B a (Sort.grow (w.drewN k) os) :=
  h.trans ⟨rfl, rfl, rfl, by show w.heap.size ≤ (w.heap ++ os).size; simp, fun i hi => by
    show (w.heap ++ os)[i]? = _
    rw [Array.getElem?_append_left (by omega)]⟩

theorem impl_format (n : Int) (w : World) (h0 : -9223372036854775808 ≤ n) (h1 : n ≤ 9223372036854775807) (htab : Lib.TabIs Tryz.prog w "internal/strconv.uint64pow10" .u64 Lib.pow10Tab) :
    Calls Tryz.prog 72 #[.int .i64 n] w fun e w' => e = .returned (.string ⟨(Lib.itoa n).toArray⟩) ∧ Below w.heap.size w w' := by
  have HI := Lib.hid (Tryz.strconv_Itoa n h0 h1 w htab)
  clear htab
  go_enter Tryz.func72, Tryz.ntmps72
  go_wp2_with fail
  refine HI.out.mono ?_
  rintro e w1 ⟨rfl, k, os, rfl⟩
  go_wp2_with fail
  go_ret
  exact ⟨rfl, below_grow (Below.refl _ _) (Nat.le_refl _) k os⟩


theorem var_below {P : Program} {w w1 : World} {n : String} {cs : Array Value} (h : Below w.heap.size w w1) (hv : w.var? P n = some cs) : w1.var? P n = some cs := by
  unfold World.var? at hv ⊢
  cases hg : P.globalNamed n with
  | none => rw [hg] at hv; simp at hv
  | some g =>
    rw [hg] at hv
    simp only [Option.bind_some] at hv ⊢
    have : g < w.heap.size := by
      cases hh : w.heap[g]? with
      | none => rw [hh] at hv; simp at hv
      | some o => exact (Array.getElem?_eq_some_iff.1 hh).1
    rw [h.block g this]
    exact hv
theorem tab_below {w w1 : World} (h : Below w.heap.size w w1) (ht : Lib.TabIs Tryz.prog w "internal/strconv.uint64pow10" .u64 Lib.pow10Tab) : Lib.TabIs Tryz.prog w1 "internal/strconv.uint64pow10" .u64 Lib.pow10Tab := var_below h ht

end Go.Proofs.YtdajldenjeanhaaGreatDoor

/-! Join2 -/
namespace Go.Proofs.YtdajldenjeanhaaGreatDoor
set_option maxRecDepth 100000
set_option linter.unusedVariables false
set_option linter.unusedSimpArgs false
open Go.RowKit

theorem joinK_all (ss : List ByteArray) (sep : ByteArray) : joinK ss sep ss.length = Lib.join (ss.map (·.data.toList)) sep.data.toList := by
  unfold joinK; rw [List.take_length]
theorem lib_join (v : Value) (ss : List ByteArray) (sep : ByteArray) (w : World) (h : RowOf .string w v ss) (hB : (joinK ss sep ss.length).length ≤ 140737488355328) (hn : ss.length ≤ 140737488355328) :
    Calls Tryz.prog 59 #[v, .string sep] w fun e w' => e = .returned (.string ⟨(joinK ss sep ss.length).toArray⟩) ∧ Below w.heap.size w w' := by
  obtain ⟨a, c, rfl, hc, hm, hr⟩ := h
  rw [joinK_all] at hB ⊢
  cases hss : ss with
  | nil => exact (Tryz.strings_Join_none a c sep w).mono fun e w' ⟨he, hw⟩ => ⟨by rw [he]; rfl, by rw [hw]; exact Below.refl _ _⟩
  | cons s r =>
    rw [← hss]
    obtain ⟨b, o, ha, hx⟩ := hr 0 (by rw [hss]; simp)
    have hb := World.block_lt_of_cell? w _ hx
    rw [ha]
    refine Tryz.strings_Join b o c ss sep w ?_ (by simpa using hb) hn hc hB
    intro j x hj
    obtain ⟨hjl, hje⟩ := List.getElem?_eq_some_iff.1 hj
    obtain ⟨b', o', ha', hx'⟩ := hr j hjl
    rw [ha] at ha'
    simp at ha'
    obtain ⟨rfl, rfl⟩ := ha'
    rw [hx', hje]
set_option maxHeartbeats 400000 in
theorem join_parts (v : Value) (ss : List ByteArray) (sep : ByteArray) (w : World) (h : RowOf .string w v ss) (hB : (joinK ss sep ss.length).length ≤ 140737488355328) (hn : ss.length ≤ 140737488355328) :
    Calls Tryz.prog 41 #[.string sep, v] w fun e w' => e = .returned (.string ⟨(joinK ss sep ss.length).toArray⟩) ∧ Below w.heap.size w w' := by
  have H := Lib.hid h
  clear h
  go_enter Tryz.func41, Tryz.ntmps41
  go_wp2_with fail
  refine (lib_join v ss sep _ H.out hB hn).mono ?_
  rintro e w1 ⟨rfl, hb⟩
  go_wp2_with fail
  go_ret
  exact ⟨rfl, hb⟩
theorem impl_join (v : Value) (ss : List ByteArray) (sep : ByteArray) (w : World) (h : RowOf .string w v ss) (hB : (joinK ss sep ss.length).length ≤ 140737488355328) (hn : ss.length ≤ 140737488355328) :
    Calls Tryz.prog 21 #[v, .string sep] w fun e w' => e = .returned (.string ⟨(joinK ss sep ss.length).toArray⟩) ∧ Below w.heap.size w w' := by
  have H := Lib.hid h
  clear h
  go_enter Tryz.func21, Tryz.ntmps21
  go_wp2_with fail
  refine (join_parts v ss sep _ H.out hB hn).mono ?_
  rintro e w1 ⟨rfl, hb⟩
  go_wp2_with fail
  go_ret
  exact ⟨rfl, hb⟩

end Go.Proofs.YtdajldenjeanhaaGreatDoor

/-! Pad -/
namespace Go.Proofs.YtdajldenjeanhaaGreatDoor
set_option maxRecDepth 100000
set_option linter.unusedVariables false
set_option linter.unusedSimpArgs false
open Go.RowKit

def padT (s : ByteArray) (n : Int) : ByteArray := if n ≤ s.size ∨ 2000 < n then s else ⟨(List.replicate (n.toNat - s.size) 48 ++ s.data.toList).toArray⟩
theorem padT_self {s : ByteArray} {n : Int} (h : n ≤ s.size ∨ 2000 < n) : padT s n = s := by unfold padT; rw [if_pos h]
theorem padT_more {s : ByteArray} {n : Nat} (h : s.size < n) (h2 : n ≤ 2000) : padT s n = ⟨(List.replicate (n - s.size) 48 ++ s.data.toList).toArray⟩ := by
  unfold padT; rw [if_neg (by omega)]; rfl
theorem pad_step (j : Nat) (s : ByteArray) : (⟨#[48]⟩ : ByteArray) ++ ⟨(List.replicate j 48 ++ s.data.toList).toArray⟩ = ⟨(List.replicate (j + 1) 48 ++ s.data.toList).toArray⟩ := by
  apply ByteArray.ext
  simp [ByteArray.data_append, List.replicate_succ]
theorem pad_zero (s : ByteArray) : (⟨(List.replicate 0 48 ++ s.data.toList).toArray⟩ : ByteArray) = s := by
  apply ByteArray.ext
  simp
theorem pad_size (j : Nat) (s : ByteArray) : (⟨(List.replicate j 48 ++ s.data.toList).toArray⟩ : ByteArray).size = j + s.size := by
  show (List.replicate j 48 ++ s.data.toList).toArray.size = _
  simp

set_option maxHeartbeats 400000 in
theorem spec_pad (s : ByteArray) (n : Int) (w : World) (hs : s.size ≤ maxLen) (h0 : -9223372036854775808 ≤ n) (h1 : n ≤ 9223372036854775807) :
    Calls Tryz.prog 53 #[.string s, .int .i64 n] w fun e w' => e = .returned (.string (padT s n)) ∧ w' = w := by
  unfold maxLen at hs
  by_cases hn : 2000 < n
  · have H := Lib.hid (padT_self (s := s) (.inr hn))
    go_enter Tryz.func53, Tryz.ntmps53
    go_wp2
    go_ret
    exact ⟨by rw [H.out]; rfl, rfl⟩
  · have HP := Lib.hid (fun h => padT_self (s := s) (n := n) (.inl h))
    go_enter Tryz.func53, Tryz.ntmps53
    go_wp2
    go_loop [0] (fun sv => ∃ (j : Nat) (t : ByteArray), sv = .string t ∧ Hid (t = ⟨(List.replicate j 48 ++ s.data.toList).toArray⟩) ∧ t.size = j + s.size ∧ (j = 0 ∨ (j : Int) + s.size ≤ n)) (fun sv => (n - match sv with | .string t => (t.size : Int) | _ => 0).toNat)
    case atStart => exact ⟨0, s, rfl, (pad_zero s).symm, by simp, .inl rfl⟩
    case round =>
      obtain ⟨j, t, rfl, HT, hsz, hj⟩ := hrel
      by_cases hlt : (t.size : Int) < n
      · have HS := Lib.hid hsz
        have hb : t.size ≤ 2000 := by omega
        clear hsz
        go_wp2
        go_round
        case rel => exact ⟨j + 1, _, rfl, by rw [HT.out, pad_step]; rfl, by have := HS.out; simp [ByteArray.size_append]; show 1 + t.size = _; omega, .inr (by have := HS.out; omega)⟩
        case measure => simp; show (n - (1 + (t.size : Int))).toNat < _; omega
      · have H : Hid (padT s n = t) := by
          unfold Hid
          rw [HT.out]
          rcases hj with rfl | hj
          · rw [HP.out (by omega), pad_zero]
          · by_cases e : j = 0
            · subst e; rw [HP.out (by omega), pad_zero]
            · obtain ⟨m, rfl⟩ := Int.eq_ofNat_of_zero_le (show 0 ≤ n by omega)
              rw [padT_more (by omega) (by omega), show m - s.size = j by omega]
        clear hj
        go_wp2
        go_ret
        exact ⟨by rw [H.out]; rfl, rfl⟩

theorem repeat_one (c : UInt8) : ∀ k, Lib.repeatL [c] k = List.replicate k c
  | 0 => rfl
  | k + 1 => by rw [Lib.repeatL, repeat_one c k, List.replicate_succ]; rfl
theorem pad_join (k : Nat) (s : ByteArray) : joinK [⟨(Lib.repeatL [48] k).toArray⟩, s] ⟨#[]⟩ 2 = List.replicate k 48 ++ s.data.toList := by
  rw [repeat_one]
  simp [joinK, Lib.join, List.intercalate]

set_option maxHeartbeats 400000 in
theorem impl_pad (s : ByteArray) (n : Int) (w : World) (hs : s.size ≤ 140737488000000) (h0 : -9223372036854775808 ≤ n) (h1 : n ≤ 9223372036854775807) :
    Calls Tryz.prog 74 #[.string s, .int .i64 n] w fun e w' => e = .returned (.string (padT s n)) ∧ Below w.heap.size w w' := by
  by_cases hn : n ≤ s.size
  · have H := Lib.hid (padT_self (s := s) (.inl hn))
    go_enter Tryz.func74, Tryz.ntmps74
    go_wp2
    go_ret
    exact ⟨by rw [H.out]; rfl, Below.refl _ _⟩
  by_cases hn2 : 2000 < n
  · have H := Lib.hid (padT_self (s := s) (.inr hn2))
    go_enter Tryz.func74, Tryz.ntmps74
    go_wp2
    go_ret
    exact ⟨by rw [H.out]; rfl, Below.refl _ _⟩
  obtain ⟨m, rfl⟩ := Int.eq_ofNat_of_zero_le (show 0 ≤ n by omega)
  have H := Lib.hid (padT_more (s := s) (n := m) (by omega) (by omega))
  have hR := fun W => Tryz.strings_Repeat ⟨#[48]⟩ (m - s.size) W (by omega) (by show 1 * _ ≤ _; omega)
  have HR := Lib.hid hR
  clear hR
  go_enter Tryz.func74, Tryz.ntmps74
  go_wp2_with fail
  rw [show ((m : Int) - (s.size : Int)) = ((m - s.size : Nat) : Int) by omega]
  refine (HR.out _).mono ?_
  rintro e w1 ⟨rfl, hb1⟩
  go_wp2_with fail
  have hrow := ownsRow_row (xs := [⟨(Lib.repeatL [48] (m - s.size)).toArray⟩, s]) (f := Value.string) (World.ownsRow_lit (base := 0) (e := 9) w1 #[Value.string ⟨(Lib.repeatL [48] (m - s.size)).toArray⟩, Value.string s] 2 (Nat.zero_le _) (by unfold maxLen; omega) rfl)
  refine (join_parts _ _ ⟨#[]⟩ _ hrow (by show (joinK _ _ 2).length ≤ _; rw [pad_join]; simp; have := hs; omega) (by simp)).mono ?_
  rintro e w2 ⟨rfl, hb2⟩
  go_wp2
  go_ret
  refine ⟨?_, (hb1.alloc hb1.size _).trans (hb2.mono (by have := hb1.size; simp; omega))⟩
  rw [H.out, ← pad_join]
  rfl

end Go.Proofs.YtdajldenjeanhaaGreatDoor

/-! FmtNat -/
namespace Go.Proofs.YtdajldenjeanhaaGreatDoor
set_option maxRecDepth 100000
set_option linter.unusedVariables false
set_option linter.unusedSimpArgs false
open Go.RowKit

set_option maxRecDepth 100000
/-- a text of decimal digits -/
def decT (x : Nat) : ByteArray := ⟨(Lib.decDigits x).toArray⟩
def padN9 (d : Nat) : ByteArray := ⟨(padK 9 d).toArray⟩
theorem ba_size (l : List UInt8) : (⟨l.toArray⟩ : ByteArray).size = l.length := by show l.toArray.size = _; simp
theorem decT_size {x n : Nat} (h : x < pw n) : (decT x).size ≤ 9 * n + 1 := by unfold decT; rw [ba_size]; exact dec_limbs n x h
theorem decT_size9 (x i : Nat) : (decT (dig x i)).size ≤ 9 := by unfold decT; rw [ba_size]; exact dec9 x i
theorem padN9_size (d : Nat) : (padN9 d).size = 9 := by unfold padN9; rw [ba_size, padK_length]
theorem ba_append (a b : List UInt8) : (⟨a.toArray⟩ : ByteArray) ++ ⟨b.toArray⟩ = ⟨(a ++ b).toArray⟩ := by
  apply ByteArray.ext
  simp [ByteArray.data_append]
theorem decT_next {x i : Nat} (h : 0 < x / pw (i + 1)) : decT (x / pw (i + 1)) ++ padN9 (dig x i) = decT (x / pw i) := by
  unfold decT padN9
  rw [ba_append, dec_step h]
theorem pad_dec (x i : Nat) : padT (decT (dig x i)) 9 = padN9 (dig x i) := by
  have h9 := dec9 x i
  have hs : (decT (dig x i)).size = (Lib.decDigits (dig x i)).length := by unfold decT; rw [ba_size]
  by_cases h : (Lib.decDigits (dig x i)).length = 9
  · rw [padT_self (.inl (by rw [hs]; omega))]
    unfold decT padN9
    rw [padT9, h, Nat.sub_self]
    rfl
  · have := padT_more (s := decT (dig x i)) (n := 9) (by rw [hs]; omega) (by omega)
    rw [show ((9 : Nat) : Int) = 9 from rfl] at this
    rw [this, hs]
    unfold padN9
    rw [padT9]
    rfl
theorem decT_zero : decT 0 = ⟨#[48]⟩ := by
  unfold decT
  rw [dec_lt (by omega)]
  rfl

set_option maxHeartbeats 1000000 in
theorem spec_formatNat_nat (va : Value) (x : Nat) (w : World) (ha : RowOf iV w va (limI x)) (hx : nlen x ≤ 60) :
    Calls Tryz.prog 34 #[va] w fun e w' => e = .returned (.string (decT x)) ∧ Below w.heap.size w w' := by
  have K0 := Lib.hid (spec_natOk va (limI x) w ha)
  rw [okB_limI ((nlen_le_iff _ _).1 hx)] at K0
  have RA := Lib.hid ha
  obtain ⟨aa, ca, rfl, h1, h2, h3⟩ := ha
  clear h1 h2 h3
  rw [limI_length] at RA K0 ⊢
  by_cases h0 : nlen x = 0
  · have hx0 : x = 0 := by
      have := nlen_pos_iff x
      omega
    have HZ : Hid (decT x = ⟨#[48]⟩) := by unfold Hid; rw [hx0, decT_zero]
    rw [h0] at K0 RA ⊢
    clear h0 hx0 hx
    go_enter Tryz.func34, Tryz.ntmps34
    go_wp2_with (go_at_call 50; refine K0.out.mono ?_; rintro e w' ⟨rfl, rfl⟩)
    go_ret
    exact ⟨by rw [HZ.out]; rfl, Below.refl _ _⟩
  · obtain ⟨n, hn⟩ : ∃ n, nlen x = n + 1 := ⟨nlen x - 1, by omega⟩
    have HN := Lib.hid hn
    have hxn : x < pw (n + 1) := by rw [← hn]; exact lt_pw_nlen x
    have hxn2 : pw n ≤ x := le_of_lt_nlen (by omega)
    rw [hn] at K0 RA hx ⊢
    have ht := dig_of_lt hxn
    obtain ⟨bb, ob, rfl, cx⟩ := row_limb RA.out (k := n) (by omega)
    have hz : ((n : Int) + 1 == 0) = false := by simp; omega
    have e1 : ((n : Int) + 1 - 1).toNat = n := by omega
    have hl := dig_lt x n
    obtain ⟨d, hd⟩ : ∃ d, dig x n = d := ⟨_, rfl⟩
    rw [hd] at ht cx hl
    have S0 := Lib.hid (fun W' => spec_format_nat d W' (by omega))
    have HD : Hid ((⟨(Lib.decDigits d).toArray⟩ : ByteArray) = decT (x / pw n)) := by unfold Hid; rw [ht]; rfl
    rw [HD.out] at S0
    have HX := Lib.hid hxn
    have HX2 := Lib.hid hxn2
    clear hn ht hd h0 hxn hxn2
    go_enter Tryz.func34, Tryz.ntmps34
    go_wp2_with (first
      | (go_at_call 50; refine K0.out.mono ?_; rintro e w' ⟨rfl, hw⟩; obtain rfl := hw.symm)
      | (go_at_call 52; refine (S0.out _).mono ?_; rintro e w1 ⟨rfl, b1⟩))
    have B1 := Lib.hid b1
    clear b1 cx e1 S0 K0
    go_loopw [3, 4] (fun sv iv wr => ∃ k : Nat, k ≤ n ∧ iv = .int .i64 ((k : Int) - 1) ∧ sv = .string (decT (x / pw k)) ∧ Hid (Below w.heap.size w wr)) (fun _ iv _ => (intOf iv + 1).toNat)
    case atStart => exact ⟨n, Nat.le_refl _, by go_num, rfl, B1⟩
    case round =>
      obtain ⟨k, hk, rfl, rfl, HB⟩ := hrel
      by_cases hp : 0 < k
      · obtain ⟨i, rfl⟩ : ∃ i, k = i + 1 := ⟨k - 1, by omega⟩
        have hpos : 0 < x / pw (i + 1) := Nat.div_pos (Nat.le_trans (pw_mono (by omega)) HX2.out) (pw_pos _)
        have N1 := Lib.hid (decT_next hpos)
        have s1 : (decT (x / pw (i + 1))).size ≤ 1000 := by
          have := decT_size (x := x / pw (i + 1)) (n := n + 1) (Nat.lt_of_le_of_lt (Nat.div_le_self _ _) HX.out)
          omega
        have s2 : (padN9 (dig x i)).size ≤ 1000 := by rw [padN9_size]; omega
        have s3 := decT_size9 x i
        obtain ⟨bb', ob', e', cl⟩ := row_limb RA.out (k := i) (by rw [HN.out]; omega)
        injection e' with e'
        injection e' with e2 e3
        subst e2 e3
        have clw := (HB.out.cell (p := ⟨bb, ob + i, none⟩) (World.block_lt_of_cell? w _ cl)).trans cl
        have P9 := pad_dec x i
        have S1 := Lib.hid (fun W' => spec_format_nat (dig x i) W' (by have := dig_lt x i; omega))
        have S2 := Lib.hid (fun W' => spec_pad (decT (dig x i)) 9 W' (by unfold maxLen; omega) (by omega) (by omega))
        rw [P9] at S2
        have e1 : (((i : Nat) : Int)).toNat = i := by omega
        have hl := dig_lt x i
        obtain ⟨t1, ht1⟩ : ∃ t, decT (x / pw (i + 1)) = t := ⟨_, rfl⟩
        obtain ⟨t2, ht2⟩ : ∃ t, padN9 (dig x i) = t := ⟨_, rfl⟩
        obtain ⟨t3, ht3⟩ : ∃ t, decT (dig x i) = t := ⟨_, rfl⟩
        rw [ht1] at s1 N1 ⊢
        rw [ht2] at s2 N1 S2
        rw [ht3] at S2
        change Hid (∀ W', _) at S1
        have S1 : Hid (∀ W', Calls Tryz.prog 52 #[.int .i64 (dig x i : Nat)] W' fun e w' => e = .returned (.string t3) ∧ Below W'.heap.size W' w') := fun W' => by rw [← ht3]; exact S1.out W'
        obtain ⟨d, hd⟩ : ∃ d, dig x i = d := ⟨_, rfl⟩
        rw [hd] at clw S1 hl
        clear cl ht1 ht2 ht3 hd P9 s3
        go_wp2_with (first
          | (go_at_call 52; refine (S1.out _).mono ?_; rintro e w2 ⟨rfl, b2⟩)
          | (go_at_call 53; refine (S2.out _).mono ?_; rintro e w3 ⟨rfl, rfl⟩))
        go_roundw
        case rel => exact ⟨i, by omega, by go_num, by rw [N1.out], HB.out.trans (b2.mono HB.out.size)⟩
        case measure => simp [intOf] <;> omega
      · obtain rfl : k = 0 := by omega
        have HF : Hid (decT (x / pw 0) = decT x) := by unfold Hid; rw [pw_zero, Nat.div_one]
        rw [HF.out]
        go_wp2
        go_ret
        exact ⟨rfl, HB.out⟩

end Go.Proofs.YtdajldenjeanhaaGreatDoor

/-! Text -/
namespace Go.Proofs.YtdajldenjeanhaaGreatDoor
set_option maxRecDepth 100000
set_option linter.unusedVariables false
set_option linter.unusedSimpArgs false
open Go.RowKit Go.Shelf

set_option maxRecDepth 100000
theorem wide_fn' (f : Nat) : Fence.wide.fn f = True := rfl
attribute [local go_sem] Oper.semAt_some wide_fn'

/-- the parts down to place n - k -/
def partsT (x n : Nat) (l : List Nat) : List ByteArray := decT (x / pw n) :: l.map (fun i => padN9 (dig x i))
theorem partsT_snoc (x n : Nat) (l : List Nat) (i : Nat) : partsT x n (l ++ [i]) = partsT x n l ++ [padN9 (dig x i)] := by simp [partsT]
theorem partsT_len (x n : Nat) (l : List Nat) : (partsT x n l).length = l.length + 1 := by simp [partsT]
theorem parts_flat (x n : Nat) (h : pw n ≤ x) : ∀ k, k ≤ n → ((partsT x n (descN n k)).map (·.data.toList)).flatten = Lib.decDigits (x / pw (n - k))
  | 0, _ => by rw [descN_zero, Nat.sub_zero]; simp [partsT, decT]
  | k + 1, hk => by
    obtain ⟨i, hi⟩ : ∃ i, n - 1 - k = i := ⟨_, rfl⟩
    have ih := parts_flat x n h k (by omega)
    rw [show n - k = i + 1 by omega] at ih
    rw [descN_succ, hi, partsT_snoc, List.map_append, List.flatten_append, ih, show n - (k + 1) = i by omega]
    have e := dec_step (x := x) (i := i) (Nat.div_pos (Nat.le_trans (pw_mono (by omega)) h) (pw_pos _))
    rw [e]
    simp [padN9]
theorem join_flat (xs : List (List UInt8)) : Lib.join xs [] = xs.flatten := by
  cases xs with
  | nil => rfl
  | cons y r =>
    rw [Lib.join_cons]
    simp [Lib.joinTail]
theorem parts_join (x n : Nat) (h : pw n ≤ x) : joinK (partsT x n (descN n n)) ⟨#[]⟩ (partsT x n (descN n n)).length = Lib.decDigits x := by
  rw [joinK_all, join_flat, parts_flat x n h n (Nat.le_refl _), Nat.sub_self, pw_zero, Nat.div_one]

theorem info_str : (Tryz.prog.info? 9).map (fun i => (i.zero, i.size, i.bytes)) = some (some (.string ⟨#[]⟩), 1, 16) := by kernel_rfl
theorem info_partsS {o : Option TypeInfo} (h : o.map (fun i => (i.zero, i.size, i.bytes)) = some (some (.string ⟨#[]⟩), 1, 16)) : ∃ i, o = some i ∧ i.zero = some (.string ⟨#[]⟩) ∧ i.size = 1 ∧ i.bytes = 16 := by
  cases o with
  | none => simp at h
  | some i =>
    simp only [Option.map_some, Option.some.injEq, Prod.mk.injEq] at h
    exact ⟨i, rfl, h.1, h.2.1, h.2.2⟩
/-- a row of strings of the call's own -/
def OwnS (w : World) (B : Nat) (v : Value) (l : List ByteArray) : Prop := w.ownsRow B 9 1 v l.length (l.map .string)
theorem appended_str (w : World) (ty : TypeId) (B : Nat) (v : Value) (l : List ByteArray) (t : ByteArray) (hown : OwnS w B v l) (hB : B ≤ w.heap.size) (hn : l.length ≤ 1000000) :
    ∃ v' w', (Builtin.append_ #[39, 39] ty #[v, .slice (some ⟨w.heap.size, 0, none⟩) 1 1]).run Tryz.prog (w.alloc (.cells #[.string t] 9)) = .ok v' w' ∧ OwnS w' B v' (l ++ [t]) ∧ (w.alloc (.cells #[.string t] 9)).grownBy w' v.ownBlock ∧ ∃ g c, v' = .slice (some ⟨g, 0, none⟩) (l.length + 1) c := by
  obtain ⟨i0, hi, hz0, hz1, hz2⟩ := info_partsS info_str
  obtain ⟨v', w', hr, h2, h3, h4⟩ := run_append_own (P := Tryz.prog) (w.alloc (.cells #[.string t] 9)) B 39 ty 9 i0 (.string ⟨#[]⟩) 1 16 Tryz.underlying39 hi hz0 hz1 hz2 rfl (by decide) v l.length (l.map .string) (hown.alloc _) ⟨w.heap.size, 0, none⟩ 1 1 [.string t] rfl
    (fun j u hj => cell_one_new _ _ _ j u hj)
    (by simp [Value.oneCell']) (by unfold maxLen; omega) (by omega) (by simp; omega)
  refine ⟨v', w', hr, ?_, h3, ?_⟩
  · unfold OwnS
    rw [List.length_append, List.map_append]
    exact h2
  · obtain ⟨g, c, e⟩ := ownsRow_succ h2
    exact ⟨g, c, e⟩
theorem cell_allocT {w : World} {p : Addr} {v : Value} (h : w.cell? p = some v) (o : Obj) : (w.alloc o).cell? p = some v :=
  (((Below.refl w.heap.size w).alloc (Nat.le_refl _) o).cell (World.block_lt_of_cell? w _ h)).trans h
/-- 'append' on rows of strings, not laid open by the walk -/
def appSem (ty : TypeId) (args : Array Value) : Sem Value := Builtin.append_ #[39, 39] ty args
theorem app_sem (ty : TypeId) (args : Array Value) : Builtin.append_ #[39, 39] ty args = appSem ty args := rfl
attribute [local go_sem ↓] app_sem
theorem boxedT_below {W W' : World} {B : Nat} {t : TypeId} {v : Value} (h : Boxed W B t v) (hb : Below W.heap.size W W') : Boxed W' B t v := h.kept (grownBy_of_below hb none) (by simp)
theorem kf_below {n : Nat} {W W' : World} (h : Below W.heap.size W W') : KeepsFrom n W W' := KeepsFrom.of_grownBy (grownBy_of_below h none) (fun j e => by cases e)

set_option maxHeartbeats 2000000 in
theorem impl_text (va : Value) (x n : Nat) (w : World) (ha : RowOf iV w va (limI x)) (hn1 : nlen x = n + 1) (hx : nlen x ≤ 60) (htab : Lib.TabIs Tryz.prog w "internal/strconv.uint64pow10" .u64 Lib.pow10Tab) :
    Calls Tryz.prog 58 #[va] w fun e w' => e = .returned (.string (decT x)) ∧ Below w.heap.size w w' := by
  have RA := Lib.hid ha
  obtain ⟨aa, ca, rfl, hca, h2, h3⟩ := ha
  clear h2 h3
  rw [limI_length] at RA hca ⊢
  have hxn : x < pw (n + 1) := by rw [← hn1]; exact lt_pw_nlen x
  have hxn2 : pw n ≤ x := le_of_lt_nlen (by omega)
  rw [hn1] at RA hx hca ⊢
  have HN := Lib.hid hn1
  have ht := dig_of_lt hxn
  obtain ⟨bb, ob, rfl, cx⟩ := row_limb RA.out (k := n) (by omega)
  have hz : ((n : Int) + 1 == 0) = false := by simp; omega
  have e1 : ((n : Int) + 1 - 1).toNat = n := by omega
  have hl := dig_lt x n
  obtain ⟨d, hd⟩ : ∃ d, dig x n = d := ⟨_, rfl⟩
  rw [hd] at ht cx hl
  have FI := Lib.hid (fun (d : Nat) (hd : d < 1000000000) W' (hW : Below w.heap.size w W') => impl_format d W' (by omega) (by omega) (tab_below hW htab))
  have S0 : Hid (Calls Tryz.prog 72 #[.int .i64 d] w fun e w' => e = .returned (.string (decT (x / pw n))) ∧ Below w.heap.size w w') := by
    have := FI.out d (by omega) w (Below.refl _ _)
    rw [itoa_nat] at this
    unfold Hid decT
    rw [← ht]
    exact this
  have PJ := Lib.hid (parts_join x n hxn2)
  have PF := Lib.hid (parts_flat x n hxn2)
  have hts : (decT (x / pw n)).size ≤ 1000 := by
    have := decT_size (x := x / pw n) (n := n + 1) (Nat.lt_of_le_of_lt (Nat.div_le_self _ _) hxn)
    omega
  have HXN := Lib.hid hxn
  obtain ⟨t0, ht0⟩ : ∃ t, decT (x / pw n) = t := ⟨_, rfl⟩
  rw [ht0] at S0 hts
  have HT0 := Lib.hid ht0
  clear hd ht ht0 hl hxn2 htab hn1 hxn
  refine (callsIn_wide (n := 3)).1 ?_
  refine callsIn_of_wp_marks Tryz.func58 rfl trivial ?_ rfl
  simp only [Tryz.ntmps58, List.size_toArray, List.length_cons, List.length_nil, Nat.reduceAdd, Nat.reduceSub, Array.replicate_succ, Array.replicate_zero, List.push_toArray, List.append_toArray, List.nil_append, List.cons_append]
  refine wpIn_wide.2 ?_
  go_wp2_with (first
    | (go_at_call 73; refine ((callsIn_wide (n := 3)).1 (back_in Fence.wide _ trivial rfl _ _ _ _)).mono ?_; rintro e w' ⟨rfl, hw⟩; subst hw)
    | (go_at_call 72; refine S0.out.mono ?_; rintro e w1 ⟨rfl, b1⟩))
  clear S0 cx e1 hz
  obtain ⟨W0, hW0⟩ : ∃ W0, W0 = ((w1.alloc (.cells #[.string t0] 9)).alloc (.cells #[.slice (some ⟨w1.heap.size, 0, none⟩) 1 1] 39)).alloc (.cells #[.slice (some ⟨bb, ob, none⟩) n ca] 75) := ⟨_, rfl⟩
  have q0 : OwnS (w1.alloc (.cells #[.string t0] 9)) w1.heap.size (.slice (some ⟨w1.heap.size, 0, none⟩) 1 1) [t0] := World.ownsRow_lit (base := w1.heap.size) (e := 9) (size := 1) w1 #[.string t0] 1 (Nat.le_refl _) (by unfold maxLen; omega) (by simp)
  have b0 := (q0.alloc (.cells #[.slice (some ⟨w1.heap.size, 0, none⟩) 1 1] 39)).alloc (.cells #[.slice (some ⟨bb, ob, none⟩) n ca] 75)
  have b3 := (Boxed.new (w1.alloc (.cells #[.string t0] 9)) 39 (.slice (some ⟨w1.heap.size, 0, none⟩) 1 1)).alloc (.cells #[.slice (some ⟨bb, ob, none⟩) n ca] 75)
  have b4 := Boxed.new ((w1.alloc (.cells #[.string t0] 9)).alloc (.cells #[.slice (some ⟨w1.heap.size, 0, none⟩) 1 1] 39)) 75 (.slice (some ⟨bb, ob, none⟩) n ca)
  have bB : Below w1.heap.size w1 W0 := by
    rw [hW0]
    exact (((Below.refl _ w1).alloc (Nat.le_refl _) _).alloc (by simp) _).alloc (by simp; omega) _
  have bS : W0.heap.size = w1.heap.size + 1 + 1 + 1 := by rw [hW0]; simp
  rw [← hW0] at b0 b3 b4 ⊢
  simp only [World.size_alloc] at b3 b4
  have O0 := Lib.hid (show OwnS W0 w1.heap.size (.slice (some ⟨w1.heap.size, 0, none⟩) 1 1) [t0] from b0)
  have B3 := Lib.hid b3
  have B4 := Lib.hid b4
  have BB := Lib.hid bB
  have BW := Lib.hid b1
  have RD := Lib.hid (show Rd (VL x) (some ⟨bb, ob, none⟩) n W0 from fun i hi => rd_below (rd_below (rd_limbs RA.out) b1) bB i (by omega))
  have hbb : bb < w.heap.size := rd_block (rd_limbs RA.out) bb ob rfl (by omega)
  have hbw := b1.size
  clear b0 b3 b4 bB hW0 b1 q0
  obtain ⟨h, hh⟩ : ∃ h, w1.heap.size = h := ⟨_, rfl⟩
  rw [hh] at O0 B3 B4 BB bS hbw ⊢
  have HH := Lib.hid hh
  have BS := Lib.hid bS
  clear hh bS
  refine (wpIn_wide (n := 3)).1 ?_
  refine wpIn_rangeFunc_ownG rfl (by omega) (gf := 96) (lb := #[.pointer (some ⟨h + 1 + 1, 0, none⟩)]) rfl trivial (enters_of Tryz.func96 (by kernel_rfl) rfl)
    (back_stops Fence.wide _ trivial rfl (by omega) (h + 1 + 1) h n ca (some ⟨bb, ob, none⟩) (VL x) (by omega) W0 B4.out.cell RD.out) (fun h k => KpB.trans h k) (KpB.putObj (by rw [BS.out]; omega) (by rw [BS.out]; omega) (fun b o e hl => by injection e with e; injection e with e _ _; rw [BS.out]; omega)) (Below.refl _ _) (fun _ => rfl)
    (fun pre W => ((∃ v, Boxed W (h + 1) 39 v ∧ W.ownsRow h 9 1 v (partsT x n (pre.map idx)).length ((partsT x n (pre.map idx)).map .string) ∧ True) ∧ Boxed W (h + 1 + 1) 75 (.slice (some ⟨bb, ob, none⟩) n ca)) ∧ Below h w1 W)
    (fun _ _ _ => False)
    (OwnFrom.and (Own.from (fun s A B row hs hg hr => ⟨holdsRow_own h (h + 1) 39 9 1 (fun s : List (BackA n (VL x)) => (partsT x n (s.map idx)).length) (fun s => (partsT x n (s.map idx)).map .string) (fun _ _ => True) s A B row hs.1 hg hr, boxed_own _ _ (fun _ : List (BackA n (VL x)) => _) s A B row hs.2 hg hr⟩) _) (ownFrom_below (by rw [HH.out]; exact Nat.le_refl _) (by rw [BS.out]; omega)))
    (fun _ _ _ _ _ hs _ _ => hs)
    ⟨⟨⟨_, B3.out, by
        have := O0.out
        unfold OwnS at this
        rw [← HT0.out] at this
        exact this, trivial⟩, B4.out⟩, BB.out⟩
    (fun z => { tmps := #[.slice (some ⟨bb, ob, none⟩) (n + 1) ca, undef, .string ⟨#[]⟩, .int .i64 n, .pointer (some ⟨h + 1, 0, none⟩), undef, .int .i64 z.1.2, .slice (some ⟨bb, ob, none⟩) (n + 1) ca, .int .i64 ((n : Int) + 1), .bool false, .slice (some ⟨bb, ob, none⟩) (n + 1) ca, .int .i64 ((n : Int) + 1), .int .i64 n, .slice (some ⟨bb, ob, none⟩) (n + 1) ca, .int .i64 n, .pointer (some ⟨bb, ob + n, none⟩), .int .i64 d, .string t0, .slice (some ⟨h, 0, none⟩) 1 1, .slice (some ⟨bb, ob, none⟩) (n + 1) ca, .int .i64 n, .slice (some ⟨bb, ob, none⟩) n ca, .func (.func 96) #[] #[.pointer (some ⟨h + 1 + 1, 0, none⟩)], .int .i64 (z.1.1 : Int), .int .i64 z.1.2, undef, undef, undef, undef, undef, undef, undef, undef], defers := [] }) ?assign ?body ?done ?stop
  case assign =>
    intro l z W K hK
    gi_wp2
    exact hK
  case body =>
    rintro l pre z W ⟨⟨⟨v, k1, k2, _⟩, k3⟩, kB⟩ hpl
    have hi := z.2.1
    have hzv : z.1.2 = (dig x z.1.1 : Int) := z.2.2
    have hmap : (pre ++ [z]).map idx = pre.map idx ++ [z.1.1] := by rw [List.map_append]; rfl
    have hLl := partsT_len x n (pre.map idx)
    rw [List.length_map] at hLl
    have hsn := partsT_snoc x n (pre.map idx) z.1.1
    rw [← hmap] at hsn
    rw [hzv]
    obtain ⟨i, hie⟩ : ∃ i, z.1.1 = i := ⟨_, rfl⟩
    rw [hie] at hi hsn ⊢
    obtain ⟨L, hL⟩ : ∃ L, partsT x n (pre.map idx) = L := ⟨_, rfl⟩
    rw [hL] at k2 hLl hsn
    have HSN := Lib.hid hsn
    obtain ⟨m, hm⟩ : ∃ m, pre.length = m := ⟨_, rfl⟩
    rw [hm] at hLl hpl
    obtain ⟨g, c, rfl⟩ := ownsRow_succ (hLl ▸ k2 : W.ownsRow h 9 1 v (m + 1) (L.map .string))
    have hlt := dig_lt x i
    have p9 := pad_dec x i
    have s3 := decT_size9 x i
    have f1 := FI.out (dig x i) hlt
    rw [itoa_nat] at f1
    have hWh : h ≤ W.heap.size := by have := kB.size; rw [HH.out] at this; exact this
    have bwW : Below w.heap.size w W := BW.out.trans (kB.mono hbw)
    have FC1 : Hid (∀ W' : World, Below W.heap.size W W' → CallsIn Fence.wide 0 Tryz.prog 72 #[.int .i64 (dig x i : Nat)] W' fun e w' => e = .returned (.string (decT (dig x i))) ∧ Below W'.heap.size W' w') := fun W' hW => callsIn_wide.2 (f1 W' (bwW.trans (hW.mono bwW.size)))
    have FC2 : Hid (∀ W' : World, CallsIn Fence.wide 0 Tryz.prog 74 #[.string (decT (dig x i)), .int .i64 9] W' fun e w' => e = .returned (.string (padN9 (dig x i))) ∧ Below W'.heap.size W' w') := fun W' => by
      have := impl_pad (decT (dig x i)) 9 W' (by omega) (by omega) (by omega)
      rw [p9] at this
      exact callsIn_wide.2 this
    have AP : Hid (∀ W' : World, Below W.heap.size W W' → ∃ g' c' w4, (appSem 39 #[.slice (some ⟨g, 0, none⟩) (m + 1) c, .slice (some ⟨W'.heap.size, 0, none⟩) 1 1]).run Tryz.prog (W'.alloc (.cells #[.string (padN9 (dig x i))] 9)) = .ok (.slice (some ⟨g', 0, none⟩) (m + 1 + 1) c') w4 ∧
        w4.cell? ⟨h + 1, 0, none⟩ = some (.slice (some ⟨g, 0, none⟩) (m + 1) c) ∧ w4.frozen? ⟨h + 1, 0, none⟩ = false ∧
        Hid (∀ Wf, Wf = w4.setCell ⟨h + 1, 0, none⟩ (.slice (some ⟨g', 0, none⟩) (m + 1 + 1) c') → KeepsFrom W0.heap.size W Wf ∧ KpB (VL x) (some ⟨bb, ob, none⟩) n (h + 1 + 1) h W Wf ∧
          (((∃ v, Boxed Wf (h + 1) 39 v ∧ Wf.ownsRow h 9 1 v (partsT x n ((pre ++ [z]).map idx)).length ((partsT x n ((pre ++ [z]).map idx)).map .string) ∧ True) ∧ Boxed Wf (h + 1 + 1) 75 (.slice (some ⟨bb, ob, none⟩) n ca)) ∧ Below h w1 Wf))) := fun W' hW => by
      have hWh' : h ≤ W'.heap.size := Nat.le_trans hWh hW.size
      have k1' := boxedT_below k1 hW
      have k2' := ownsRow_below k2 hW
      have k3' := boxedT_below k3 hW
      obtain ⟨v', w4, hr, hO, hG, g', c', rfl⟩ := appended_str W' 39 h _ L (padN9 (dig x i)) k2' hWh' (by omega)
      rw [hLl] at hr hO
      have hO2 := hO
      unfold OwnS at hO2
      have ha := Boxed.appended k1' (by decide) k2' hWh' (by omega) hO2 hG
      obtain ⟨a1, a2, a3, a4, a5⟩ := ha
      have hbW : Below h W (w4.setCell ⟨h + 1, 0, none⟩ (.slice (some ⟨g', 0, none⟩) (m + 1 + 1) c')) := (hW.mono hWh).trans a5
      have k3f : Boxed (w4.setCell ⟨h + 1, 0, none⟩ (.slice (some ⟨g', 0, none⟩) (m + 1 + 1) c')) (h + 1 + 1) 75 (.slice (some ⟨bb, ob, none⟩) n ca) :=
        ((k3'.alloc _).kept hG (k3'.not_row (by decide) k2')).other (by omega) _
      refine ⟨g', c', w4, hr, a1.cell, a1.frozen, ?_⟩
      rintro Wf rfl
      refine ⟨(kf_below hW).trans (a4.from _), ⟨hbW, Eq.trans (show _ = _ from k3f) (show _ = _ from k3).symm, fun hR => rd_keep hR (fun b o e hl => hbW.block b (by injection e with e; injection e with e _ _; omega))⟩, ⟨⟨_, a2, ?_, trivial⟩, k3f⟩, kB.trans hbW⟩
      rw [HSN.out]
      exact a3
    have c3 := k1.cell
    have lt3 : h + 1 < W.heap.size := k1.lt
    have hlim : (m : Int) + 1 ≤ 1000 := by omega
    have KB := Lib.hid kB
    clear hsn hmap hzv hie hL k1 k2 k3 kB bwW f1 p9
    obtain ⟨t1, ht1⟩ : ∃ t, decT (dig x i) = t := ⟨_, rfl⟩
    obtain ⟨t2, ht2⟩ : ∃ t, padN9 (dig x i) = t := ⟨_, rfl⟩
    rw [ht1] at FC1 FC2 s3
    rw [ht2] at FC2 AP
    obtain ⟨e0, he0⟩ : ∃ e, dig x i = e := ⟨_, rfl⟩
    rw [he0] at FC1 hlt ⊢
    clear ht1 ht2 he0 HSN
    have hmx : Tryz.prog.follows .mixedOrders = true := by kernel_rfl
    gi_wp2
    gi_region_with (first
      | (gi_at_call 72; refine ((FC1.out _ (by first | exact Below.refl _ _ | exact (Below.refl _ _).drew)).inRound l).mono ?_; rintro e' w2 ⟨rfl, b2⟩; have bb2 : Below W.heap.size W w2 := (by first | exact b2 | exact ((Below.refl _ _).drew).trans b2); have c32 := (bb2.cell (p := ⟨h + 1, 0, none⟩) lt3).trans c3)
      | (gi_at_call 74; refine ((FC2.out _).inRound l).mono ?_; rintro e' w3 ⟨rfl, b3⟩; have bb3 : Below W.heap.size W w3 := bb2.trans (b3.mono bb2.size); have lt33 : h + 1 < w3.heap.size := Nat.lt_of_lt_of_le lt3 bb3.size; have c33 := (bb3.cell (p := ⟨h + 1, 0, none⟩) lt3).trans c3; obtain ⟨g', c', w4, hrun, hc4, hf4, hfin⟩ := AP.out w3 bb3))
    all_goals gi_wp2
    all_goals exact hfin.out _ rfl
  case done =>
    rintro D ys W hD hS ⟨⟨⟨v, k1, k2, _⟩, k3⟩, kB⟩ hK
    rw [hS] at k2
    have hl1 := partsT_len x n (descN n n)
    rw [descN_length] at hl1
    obtain ⟨g, c, rfl⟩ := ownsRow_succ (hl1 ▸ k2 : W.ownsRow h 9 1 v (n + 1) ((partsT x n (descN n n)).map .string))
    have hrow : RowOf .string W (.slice (some ⟨g, 0, none⟩) (n + 1) c) (partsT x n (descN n n)) := ownsRow_row k2
    have T0 := impl_join _ (partsT x n (descN n n)) ⟨#[]⟩ W hrow (by rw [PJ.out]; have := dec_limbs (n + 1) x HXN.out; omega) (by rw [hl1]; omega)
    rw [PJ.out] at T0
    have T1 : Calls Tryz.prog 21 #[.slice (some ⟨g, 0, none⟩) (n + 1) c, .string ⟨#[]⟩] W fun e w' => e = .returned (.string (decT x)) ∧ Below W.heap.size W w' := T0
    have T := Lib.hid T1
    clear T0 T1
    have c3 := k1.cell
    have HDD := Lib.hid hD
    have HK := Lib.hid hK
    have KB := Lib.hid kB
    clear hl1 hrow k1 k2 k3 kB hK hD hS
    go_wp2_with (go_at_call 21; refine T.out.mono ?_; rintro e' w9 ⟨rfl, hb9⟩)
    have hD' : D < W.heap.size := (Array.getElem?_eq_some_iff.1 HK.out).1
    have hK' : w9.heap[D]? = some (.deferred (some [])) := (hb9.block D hD').trans HK.out
    have hWh : h ≤ W.heap.size := by have := KB.out.size; rw [HH.out] at this; exact this
    refine ⟨by simp, .inl ⟨_, _, rfl, run_takeDeferred hK', ?_⟩⟩
    refine ⟨.string (decT x), ?_, rfl, ?_⟩
    · simp [results, Tryz.f58, go_sem]
    · exact below_shut ((BW.out.trans (KB.out.mono hbw)).trans (hb9.mono (by omega))) (by have := HDD.out; have := BS.out; omega) (by have := hb9.size; omega)
  case stop =>
    rintro D c pre W hD _ hf _
    exact hf.elim

end Go.Proofs.YtdajldenjeanhaaGreatDoor

/-! FmtLaw -/
namespace Go.Proofs.YtdajldenjeanhaaGreatDoor
set_option maxRecDepth 100000
set_option linter.unusedVariables false
set_option linter.unusedSimpArgs false
open Go.RowKit

set_option maxRecDepth 100000
def natText (zs : List Int) : ByteArray := if okB zs then decT (natI zs) else ⟨#[]⟩
theorem natText_no {zs : List Int} (h : okB zs = false) : natText zs = ⟨#[]⟩ := by unfold natText; rw [h]; rfl
theorem natText_yes {x : Nat} (h : x < pw 60) : natText (limI x) = decT x := by unfold natText; rw [okB_limI h, natI_limI]; rfl
theorem impl_textAny (va : Value) (x : Nat) (w : World) (ha : RowOf iV w va (limI x)) (hx : nlen x ≤ 60) (htab : Lib.TabIs Tryz.prog w "internal/strconv.uint64pow10" .u64 Lib.pow10Tab) :
    Calls Tryz.prog 58 #[va] w fun e w' => e = .returned (.string (decT x)) ∧ Below w.heap.size w w' := by
  by_cases h0 : nlen x = 0
  · have hx0 : x = 0 := by
      have := nlen_pos_iff x
      omega
    have HZ : Hid (decT x = ⟨#[48]⟩) := by unfold Hid; rw [hx0, decT_zero]
    obtain ⟨aa, ca, rfl, h1, h2, h3⟩ := ha
    rw [limI_length, h0]
    clear h0 hx0 hx h1 h2 h3 htab
    go_enter Tryz.func58, Tryz.ntmps58
    go_wp2
    first
      | (go_ret; exact ⟨by rw [HZ.out]; rfl, Below.refl _ _⟩)
      | exact bodyPost_ret (v := .string ⟨#[48]⟩) (by simp [results, Tryz.results58, go_sem]) rfl ⟨by rw [HZ.out], Below.refl _ _⟩
  · exact impl_text va x (nlen x - 1) w ha (by omega) hx htab

set_option maxHeartbeats 400000 in
theorem spec_formatNat (va : Value) (zs : List Int) (w : World) (ha : RowOf iV w va zs) :
    Calls Tryz.prog 34 #[va] w fun e w' => e = .returned (.string (natText zs)) ∧ Below w.heap.size w w' := by
  cases e0 : okB zs with
  | false =>
    have K0 := Lib.hid (spec_natOk va zs w ha)
    have HE := Lib.hid (natText_no e0)
    rw [e0] at K0
    obtain ⟨aa, ca, rfl, h1, h2, h3⟩ := ha
    clear e0 h1 h2 h3
    go_enter Tryz.func34, Tryz.ntmps34
    go_wp2_with (go_at_call 50; refine K0.out.mono ?_; rintro e w' ⟨rfl, rfl⟩)
    go_ret
    exact ⟨by rw [HE.out]; rfl, Below.refl _ _⟩
  | true =>
    obtain ⟨x, rfl, hx⟩ := okB_cases e0
    rw [natText_yes hx]
    have h60 := (nlen_le_iff 60 x).2 hx
    exact spec_formatNat_nat va x w ha h60

set_option maxHeartbeats 400000 in
theorem impl_formatNat (va : Value) (zs : List Int) (w : World) (htab : Lib.TabIs Tryz.prog w "internal/strconv.uint64pow10" .u64 Lib.pow10Tab) (ha : RowOf iV w va zs) :
    Calls Tryz.prog 40 #[va] w fun e w' => e = .returned (.string (natText zs)) ∧ Below w.heap.size w w' := by
  cases e0 : okB zs with
  | false =>
    have K0 := Lib.hid (impl_natOk va zs w ha)
    have HE := Lib.hid (natText_no e0)
    rw [e0] at K0
    obtain ⟨aa, ca, rfl, h1, h2, h3⟩ := ha
    clear e0 h1 h2 h3 htab
    go_enter Tryz.func40, Tryz.ntmps40
    go_wp2_with (go_at_call 56; refine K0.out.mono ?_; rintro e w' ⟨rfl, rfl⟩)
    go_ret
    exact ⟨by rw [HE.out]; rfl, Below.refl _ _⟩
  | true =>
    obtain ⟨x, rfl, hx⟩ := okB_cases e0
    rw [natText_yes hx]
    have h60 := (nlen_le_iff 60 x).2 hx
    have K0 := Lib.hid (impl_natOk va (limI x) w ha)
    rw [e0] at K0
    have T := Lib.hid (impl_textAny va x w ha h60 htab)
    obtain ⟨aa, ca, rfl, h1, h2, h3⟩ := ha
    clear e0 h1 h2 h3 htab hx h60
    go_enter Tryz.func40, Tryz.ntmps40
    go_wp2_with (first
      | (go_at_call 56; refine K0.out.mono ?_; rintro e w' ⟨rfl, hw⟩; obtain rfl := hw.symm)
      | (go_at_call 58; refine T.out.mono ?_; rintro e w1 ⟨rfl, b1⟩))
    go_ret
    exact ⟨rfl, b1⟩

end Go.Proofs.YtdajldenjeanhaaGreatDoor
