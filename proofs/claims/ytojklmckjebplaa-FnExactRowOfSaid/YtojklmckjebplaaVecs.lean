/- What the walks of the exact laws over vectors need besides. -/
import Derived.Test.YtojklmckjebplaaRats4
namespace Go.Proofs.Ytojklmckjebplaa
open Go.RowKit Go.WideShapes Go.ChangeShapes
theorem szL_mem : ∀ {L : List Fr} {f : Fr}, f ∈ L → f.mag.length + f.den.length ≤ szL L
  | g :: L, f, h => by
    rcases List.mem_cons.1 h with rfl | h
    · simp [szL]
    · have := szL_mem h; simp [szL]; omega
  | [], f, h => by simp at h
theorem sz_ratv_yes (v : Value) (L : List Fr) (left : Int) (w : World) (h : RatsAt w v L) (h0 : 0 ≤ left ∧ left ≤ 1048576) (h1 : (L.length : Int) + szL L ≤ left) :
    Calls Try.prog 59 #[v, .int .i64 left] w fun e w' => e = .returned (.int .i64 (left - L.length - szL L)) ∧ Below w.heap.size w w' := by
  have := sz_ratv v L left w h h0
  rw [if_pos h1] at this; exact this
theorem sz_ratv_no (v : Value) (L : List Fr) (left : Int) (w : World) (h : RatsAt w v L) (h0 : 0 ≤ left ∧ left ≤ 1048576) (h1 : ¬ (L.length : Int) + szL L ≤ left) :
    Calls Try.prog 59 #[v, .int .i64 left] w fun e w' => e = .returned (.int .i64 (-1)) ∧ Below w.heap.size w w' := by
  have := sz_ratv v L left w h h0
  rw [if_neg h1] at this; exact this
theorem below_kept {n : Nat} {W w w' : World} {S : Nat → Prop} (hb : Below n W w) (hk : Kept S w w') (hB : n ≤ w.heap.size) (h : ∀ k, S k → n ≤ k) : Below n W w' :=
  ⟨hk.os.trans hb.os, hk.tape.trans hb.tape, hk.output.trans hb.output, Nat.le_trans hb.size hk.size, fun k hkn => (hk.block k (by omega) (fun hs => by have := h k hs; omega)).trans (hb.block k hkn)⟩

end Go.Proofs.Ytojklmckjebplaa
