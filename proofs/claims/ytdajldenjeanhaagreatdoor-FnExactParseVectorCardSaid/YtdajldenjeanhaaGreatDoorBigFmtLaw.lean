/- FormatBigInt of the program and of the model; its exact law. -/
import Derived.Test.YtdajldenjeanhaaGreatDoorSigned
import Derived.Test.YtdajldenjeanhaaGreatDoorTexts
namespace Go.Proofs.YtdajldenjeanhaaGreatDoor
open Go.RowKit

set_option maxRecDepth 100000
def bigText (b : Bool) (zs : List Int) : ByteArray := if bigOk b zs then (if b then ⟨#[45]⟩ ++ natText zs else natText zs) else ⟨#[]⟩
theorem bigText_no {b : Bool} {zs : List Int} (h : bigOk b zs = false) : bigText b zs = ⟨#[]⟩ := by unfold bigText; rw [h]; rfl
theorem bigText_neg {zs : List Int} (h : bigOk true zs = true) : bigText true zs = ⟨#[45]⟩ ++ natText zs := by unfold bigText; rw [h]; rfl
theorem bigText_plain {zs : List Int} (h : bigOk false zs = true) : bigText false zs = natText zs := by unfold bigText; rw [h]; rfl
theorem natText_size (zs : List Int) : (natText zs).size ≤ 1000 := by
  unfold natText
  split
  · rename_i h
    obtain ⟨x, hz, hx⟩ := okB_cases h
    rw [hz, natI_limI]
    have := decT_size hx
    omega
  · show (#[] : Array UInt8).size ≤ 1000
    simp

set_option maxHeartbeats 1000000 in
theorem spec_bigFormat (b : Bool) (va : Value) (zs : List Int) (w : World) (ha : RowOf iV w va zs) :
    Calls Tryz.prog 33 #[.agg #[.bool b, va]] w fun e w' => e = .returned (.string (bigText b zs)) ∧ Below w.heap.size w w' := by
  have K0 := Lib.hid (fun W (hW : Below w.heap.size w W) => spec_bigOk b va zs W (rowOf_below ha hW))
  have T0 := Lib.hid (fun W (hW : Below w.heap.size w W) => spec_formatNat va zs W (rowOf_below ha hW))
  have hsz := natText_size zs
  cases e0 : bigOk b zs with
  | false =>
    rw [bigText_no e0]
    rw [e0] at K0
    clear e0
    obtain ⟨aa, ca, rfl, h1, h2, h3⟩ := ha
    clear h1 h2 h3
    go_enter Tryz.func33, Tryz.ntmps33
    go_wp2_with fail
    refine (K0.out _ ((Below.refl _ _).alloc (Nat.le_refl _) _)).mono ?_
    rintro e w' ⟨rfl, rfl⟩
    go_wp2
    go_ret
    exact ⟨rfl, (((Below.refl _ _).alloc (Nat.le_refl _) _).alloc (by simp) _)⟩
  | true =>
    rw [e0] at K0
    obtain ⟨aa, ca, rfl, h1, h2, h3⟩ := ha
    clear h1 h2 h3
    cases b with
    | false =>
      rw [bigText_plain e0]
      clear e0
      generalize natText zs = tx at T0 hsz ⊢
      go_enter Tryz.func33, Tryz.ntmps33
      go_wp2_with fail
      refine (K0.out _ ((Below.refl _ _).alloc (Nat.le_refl _) _)).mono ?_
      rintro e w' ⟨rfl, rfl⟩
      go_wp2_with fail
      refine (T0.out _ (((Below.refl _ _).alloc (Nat.le_refl _) _).alloc (by simp) _)).mono ?_
      rintro e w1 ⟨rfl, bw1⟩
      have BB := Lib.hid ((((Below.refl _ _).alloc (Nat.le_refl _) _).alloc (by simp) _).trans (bw1.mono (by simp; omega)))
      clear bw1
      go_wp2
      go_ret
      exact ⟨rfl, BB.out⟩
    | true =>
      rw [bigText_neg e0]
      clear e0
      generalize natText zs = tx at T0 hsz ⊢
      go_enter Tryz.func33, Tryz.ntmps33
      go_wp2_with fail
      refine (K0.out _ ((Below.refl _ _).alloc (Nat.le_refl _) _)).mono ?_
      rintro e w' ⟨rfl, rfl⟩
      go_wp2_with fail
      refine (T0.out _ (((Below.refl _ _).alloc (Nat.le_refl _) _).alloc (by simp) _)).mono ?_
      rintro e w1 ⟨rfl, bw1⟩
      have BB := Lib.hid ((((Below.refl _ _).alloc (Nat.le_refl _) _).alloc (by simp) _).trans (bw1.mono (by simp; omega)))
      clear bw1
      go_wp2
      go_ret
      exact ⟨rfl, BB.out⟩

set_option maxHeartbeats 1000000 in
theorem impl_bigFormat (b : Bool) (va : Value) (zs : List Int) (w : World) (htab : Lib.TabIs Tryz.prog w "internal/strconv.uint64pow10" .u64 Lib.pow10Tab) (ha : RowOf iV w va zs) :
    Calls Tryz.prog 39 #[.agg #[.bool b, va]] w fun e w' => e = .returned (.string (bigText b zs)) ∧ Below w.heap.size w w' := by
  have K0 := Lib.hid (fun W (hW : Below w.heap.size w W) => impl_bigOk b va zs W (rowOf_below ha hW))
  have T0 := Lib.hid (fun W (hW : Below w.heap.size w W) => impl_formatNat va zs W (tab_below hW htab) (rowOf_below ha hW))
  have hsz := natText_size zs
  clear htab
  cases e0 : bigOk b zs with
  | false =>
    rw [bigText_no e0]
    rw [e0] at K0
    clear e0
    obtain ⟨aa, ca, rfl, h1, h2, h3⟩ := ha
    clear h1 h2 h3
    go_enter Tryz.func39, Tryz.ntmps39
    go_wp2_with fail
    refine (K0.out _ ((Below.refl _ _).alloc (Nat.le_refl _) _)).mono ?_
    rintro e w' ⟨rfl, rfl⟩
    go_wp2
    go_ret
    exact ⟨rfl, (((Below.refl _ _).alloc (Nat.le_refl _) _).alloc (by simp) _)⟩
  | true =>
    rw [e0] at K0
    obtain ⟨aa, ca, rfl, h1, h2, h3⟩ := ha
    clear h1 h2 h3
    cases b with
    | false =>
      rw [bigText_plain e0]
      clear e0
      generalize natText zs = tx at T0 hsz ⊢
      go_enter Tryz.func39, Tryz.ntmps39
      go_wp2_with fail
      refine (K0.out _ ((Below.refl _ _).alloc (Nat.le_refl _) _)).mono ?_
      rintro e w' ⟨rfl, rfl⟩
      go_wp2_with fail
      refine (T0.out _ (((Below.refl _ _).alloc (Nat.le_refl _) _).alloc (by simp) _)).mono ?_
      rintro e w1 ⟨rfl, bw1⟩
      have BB := Lib.hid ((((Below.refl _ _).alloc (Nat.le_refl _) _).alloc (by simp) _).trans (bw1.mono (by simp; omega)))
      clear bw1
      go_wp2
      go_ret
      exact ⟨rfl, BB.out⟩
    | true =>
      rw [bigText_neg e0]
      clear e0
      generalize natText zs = tx at T0 hsz ⊢
      go_enter Tryz.func39, Tryz.ntmps39
      go_wp2_with fail
      refine (K0.out _ ((Below.refl _ _).alloc (Nat.le_refl _) _)).mono ?_
      rintro e w' ⟨rfl, rfl⟩
      go_wp2_with fail
      refine (T0.out _ (((Below.refl _ _).alloc (Nat.le_refl _) _).alloc (by simp) _)).mono ?_
      rintro e w1 ⟨rfl, bw1⟩
      have BB := Lib.hid ((((Below.refl _ _).alloc (Nat.le_refl _) _).alloc (by simp) _).trans (bw1.mono (by simp; omega)))
      clear bw1
      go_wp2
      go_ret
      exact ⟨rfl, BB.out⟩

end Go.Proofs.YtdajldenjeanhaaGreatDoor
