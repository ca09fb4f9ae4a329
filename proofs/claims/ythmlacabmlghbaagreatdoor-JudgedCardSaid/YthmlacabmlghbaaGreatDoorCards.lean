/-
  DERIVED. GIVEN WITH THE SEED: THE CARDS: each row of YthmlacabmlghbaaGreatDoorRows.lean that lists a variable, with what it lists TIED to the program's text (the seventh form; the later family's looks); each row that meets fmt, with fmt's text TOLD by the authors' own Lean function (tested against real Go, not proved from fmt's source: count such statements apart). THE CARD IS WHAT COUNTS. Prove the row's statement (the work); the ties are given (YthmlacabmlghbaaGreatDoorTie.lean); close each card by the builder's one call (the guide's Derived/Test/ToyasCard.lean, 'card_holds'). Laid BY PROGRAM, IN A SANDBOX (cutbox-door.mjs). By AI agents, Wed Nov 11 2026. No macro, syntax, notation, axiom, sorry.
-/
import Derived.Test.YthmlacabmlghbaaGreatDoorRows
import GoSem.ClaimSeven
namespace Go.Proofs.YthmlacabmlghbaaGreatDoor
namespace Rows

/-- THE TIED CARD OF 'bagslaw.Judged'. -/
def judgedCard : Claim7 := { stood := { row := judgedRow, standIns := [], harness := (true, "98e32f0949202833feb69021e1aedea2b5c69b8276d5863e285c9140d0b5ab47"), looks := true }, kinds := [], alts := [], laidByText := true, laidKinds := [.data, .data, .data, .data, .handle, .sentinel, .sentinel, .listed, .data, .data, .pinned], laidTests := true, laidLooks := .later }
def JudgedCardSaid : Prop := Claim7.holds Tryz.pinned (.plain (OpenSpec.ofChange judgedSpec)) judgedCard

/-- THE SECOND FORM's CARD OF 'bagslaw.Judged'. -/
def judgedUptoCard : Claim7 := { stood := { row := judgedUptoRow, standIns := [], harness := (true, "98e32f0949202833feb69021e1aedea2b5c69b8276d5863e285c9140d0b5ab47"), looks := true }, kinds := [], alts := [], laidByText := true, laidKinds := [.data, .data, .data, .data, .handle, .sentinel, .sentinel, .listed, .data, .data, .pinned], laidTests := true, laidLooks := .later }
def JudgedUptoCardSaid : Prop := Claim7.holds Tryz.pinned (.plain (OpenSpec.upto judgedSpec)) judgedUptoCard
end Rows
end Go.Proofs.YthmlacabmlghbaaGreatDoor
