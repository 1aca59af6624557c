/-
  DERIVED. GIVEN WITH THE SEED: THE CARDS: each row of YtdajldenjeanhaaGreatDoorRows.lean that lists a variable, with what it lists TIED to the program's text (the seventh form; the later family's looks); each row that meets fmt, with fmt's text TOLD by the authors' own Lean function (tested against real Go, not proved from fmt's source: count such statements apart). THE CARD IS WHAT COUNTS. Prove the row's statement (the work); the ties are given (YtdajldenjeanhaaGreatDoorTie.lean); close each card by the builder's one call (the guide's Derived/Test/ToyasCard.lean, 'card_holds'). Laid BY PROGRAM, IN A SANDBOX (cutbox-door.mjs). By AI agents, Wed Nov 11 2026. No macro, syntax, notation, axiom, sorry.
-/
import Derived.Test.YtdajldenjeanhaaGreatDoorRows
import GoSem.ClaimSeven
namespace Go.Proofs.YtdajldenjeanhaaGreatDoor
namespace Rows

/-- THE TIED CARD OF 'laws.FnExactFormatVector'. -/
def fnExactFormatVectorCard : Claim7 := { stood := { row := fnExactFormatVectorRow, standIns := [], harness := (true, "2ea32c9867e5fbe7aade422616b1431e9cfac2b404435f377dee86f1d85195d9"), looks := true }, kinds := [], alts := [], laidByText := true, laidKinds := [.data, .data, .data], laidTests := true, laidLooks := .later }
def FnExactFormatVectorCardSaid : Prop := Claim7.holds Tryz.pinned (.plain (OpenSpec.ofChange fnExactFormatVectorSpec)) fnExactFormatVectorCard

/-- THE TIED CARD OF 'laws.FnExactParseVector'. -/
def fnExactParseVectorCard : Claim7 := { stood := { row := fnExactParseVectorRow, standIns := [], harness := (true, "2ea32c9867e5fbe7aade422616b1431e9cfac2b404435f377dee86f1d85195d9"), looks := true }, kinds := [], alts := [], laidByText := true, laidKinds := [.data, .data, .data, .sentinel, .sentinel], laidTests := true, laidLooks := .later }
def FnExactParseVectorCardSaid : Prop := Claim7.holds Tryz.pinned (.plain (OpenSpec.ofChange fnExactParseVectorSpec)) fnExactParseVectorCard

/-- THE SECOND FORM's CARD OF 'laws.FnExactFormatVector'. -/
def fnExactFormatVectorUptoCard : Claim7 := { stood := { row := fnExactFormatVectorUptoRow, standIns := [], harness := (true, "2ea32c9867e5fbe7aade422616b1431e9cfac2b404435f377dee86f1d85195d9"), looks := true }, kinds := [], alts := [], laidByText := true, laidKinds := [.data, .data, .data], laidTests := true, laidLooks := .later }
def FnExactFormatVectorUptoCardSaid : Prop := Claim7.holds Tryz.pinned (.plain (OpenSpec.upto fnExactFormatVectorSpec)) fnExactFormatVectorUptoCard

/-- THE SECOND FORM's CARD OF 'laws.FnExactParseVector'. -/
def fnExactParseVectorUptoCard : Claim7 := { stood := { row := fnExactParseVectorUptoRow, standIns := [], harness := (true, "2ea32c9867e5fbe7aade422616b1431e9cfac2b404435f377dee86f1d85195d9"), looks := true }, kinds := [], alts := [], laidByText := true, laidKinds := [.data, .data, .data, .sentinel, .sentinel], laidTests := true, laidLooks := .later }
def FnExactParseVectorUptoCardSaid : Prop := Claim7.holds Tryz.pinned (.plain (OpenSpec.upto fnExactParseVectorSpec)) fnExactParseVectorUptoCard
end Rows
end Go.Proofs.YtdajldenjeanhaaGreatDoor
