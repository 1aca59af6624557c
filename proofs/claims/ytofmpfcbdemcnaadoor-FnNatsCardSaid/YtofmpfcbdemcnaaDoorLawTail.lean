/- The contracts that the exact laws over rows of integers are put together from, each telling that what existed is as it was. -/
import Derived.Test.YtofmpfcbdemcnaaDoorNatOk2
namespace Go.Proofs.YtofmpfcbdemcnaaDoor
open Go.RowKit

theorem eq_intsB (v1 v2 : Value) (ss : List Int) (w : World) (h1 : RowOf iV w v1 ss) (h2 : RowOf iV w v2 ss) :
    Calls Tryd.prog 19 #[v1, v2] w fun e w' => e = .returned (.bool true) ∧ Below w.heap.size w w' :=
  (eq_ints v1 v2 ss w h1 h2).mono fun _ _ ⟨he, q, hq⟩ => ⟨he, by rw [hq]; exact below_drewN (Below.refl _ _) q⟩
theorem held_intsB (v : Value) (n m : Nat) (mi : Int) (w : World) (hmi : mi = m) (h : RowOf iV w v (marksI m n)) (hm : m + n ≤ 9223372036854775807) :
    Calls Tryd.prog 22 #[v, .int .i64 mi] w fun e w' => e = .returned (.int .i64 ((m : Int) + (n : Int))) ∧ Below w.heap.size w w' :=
  (held_ints v n m mi w hmi h hm).mono fun _ _ ⟨he, hw⟩ => ⟨he, by rw [hw]; exact Below.refl _ _⟩
theorem OwnI.lt {w : World} {B : Nat} {v : Value} {l : List Int} (h : OwnI w B v l) : ∀ g, v.ownBlock = some g → B ≤ g ∧ g < w.heap.size := World.ownsRow.lt h
theorem grownBy_size {w w' : World} {row : Option Nat} (h : w.grownBy w' row) : w.heap.size ≤ w'.heap.size := h.size

end Go.Proofs.YtofmpfcbdemcnaaDoor
