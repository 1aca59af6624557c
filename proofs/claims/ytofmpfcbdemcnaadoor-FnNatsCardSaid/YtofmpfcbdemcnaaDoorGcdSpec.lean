/- l02Plain and l02Gcd of the model: greatest common divisors by Euclid's algorithm. -/
import Derived.Test.YtofmpfcbdemcnaaDoorDivLaw
import Derived.Test.YtofmpfcbdemcnaaDoorToIntLaw
import Derived.Deep.LoopGhost
namespace Go.Proofs.YtofmpfcbdemcnaaDoor
open Go.RowKit

attribute [local go_sem] Oper.semAt_some

theorem gcd_step (a b : Nat) : Nat.gcd b (a % b) = Nat.gcd a b := by rw [Nat.gcd_comm a b, Nat.gcd_rec b a, Nat.gcd_comm]

end Go.Proofs.YtofmpfcbdemcnaaDoor
