/-
  DERIVED. GIVEN WITH THE SEED: THE CARDS: each row of YtjahbjjekednfabDoorRows.lean that lists a variable, with what it lists TIED to the program's text (the seventh form; the later family's looks); each row that meets fmt, with fmt's text TOLD by the authors' own Lean function (tested against real Go, not proved from fmt's source: count such statements apart). THE CARD IS WHAT COUNTS. Prove the row's statement (the work); the ties are given (YtjahbjjekednfabDoorTie.lean); close each card by the builder's one call (the guide's Derived/Test/ToyasCard.lean, 'card_holds'). Laid BY PROGRAM, IN A SANDBOX (cutbox-door.mjs). By AI agents, Wed Nov 11 2026. No macro, syntax, notation, axiom, sorry.
-/
import Derived.Test.YtjahbjjekednfabDoorRows
import GoSem.ClaimSeven
namespace Go.Proofs.YtjahbjjekednfabDoor
namespace Rows

/-- THE TIED CARD OF 'surdkeep.Repeats'. -/
def repeatsCard : Claim7 := { stood := { row := repeatsRow, standIns := [], harness := (true, "cea30677584d18f400d3e43a3c6650f41668c32c9f6650616c7db955452e35e2"), looks := false }, kinds := [], alts := [], laidByText := true, laidKinds := [.data, .data, .data], laidTests := true, laidLooks := .later }
def RepeatsCardSaid : Prop := Claim7.holds Tryd.pinned (.plain (OpenSpec.ofChange repeatsSpec)) repeatsCard

/-- THE TIED CARD OF 'surdkeep.Mirror'. -/
def mirrorCard : Claim7 := { stood := { row := mirrorRow, standIns := [], harness := (true, "cea30677584d18f400d3e43a3c6650f41668c32c9f6650616c7db955452e35e2"), looks := false }, kinds := [], alts := [], laidByText := true, laidKinds := [.data, .data, .data], laidTests := true, laidLooks := .later }
def MirrorCardSaid : Prop := Claim7.holds Tryd.pinned (.plain (OpenSpec.ofChange mirrorSpec)) mirrorCard

/-- THE TIED CARD OF 'surdlaw.Pells'. -/
def pellsCard : Claim7 := { stood := { row := pellsRow, standIns := [], harness := (true, "cea30677584d18f400d3e43a3c6650f41668c32c9f6650616c7db955452e35e2"), looks := false }, kinds := [], alts := [], laidByText := true, laidKinds := [.data, .data, .data], laidTests := true, laidLooks := .later }
def PellsCardSaid : Prop := Claim7.holds Tryd.pinned (.plain (OpenSpec.ofChange pellsSpec)) pellsCard

/-- THE TIED CARD OF 'surdlaw.Lines'. -/
def linesCard : Claim7 := { stood := { row := linesRow, standIns := [], harness := (true, "cea30677584d18f400d3e43a3c6650f41668c32c9f6650616c7db955452e35e2"), looks := false }, kinds := [], alts := [], laidByText := true, laidKinds := [.data, .data, .data], laidTests := true, laidLooks := .later }
def LinesCardSaid : Prop := Claim7.holds Tryd.pinned (.plain (OpenSpec.ofChange linesSpec)) linesCard

/-- THE TIED CARD OF 'surdkeep.Solved'. -/
def solvedCard : Claim7 := { stood := { row := solvedRow, standIns := [], harness := (true, "cea30677584d18f400d3e43a3c6650f41668c32c9f6650616c7db955452e35e2"), looks := false }, kinds := [], alts := [], laidByText := true, laidKinds := [.data, .data, .data], laidTests := true, laidLooks := .later }
def SolvedCardSaid : Prop := Claim7.holds Tryd.pinned (.plain (OpenSpec.ofChange solvedSpec)) solvedCard

/-- THE TIED CARD OF 'surdkeep.Met'. -/
def metCard : Claim7 := { stood := { row := metRow, standIns := [], harness := (true, "cea30677584d18f400d3e43a3c6650f41668c32c9f6650616c7db955452e35e2"), looks := false }, kinds := [], alts := [], laidByText := true, laidKinds := [.data, .data, .data], laidTests := true, laidLooks := .later }
def MetCardSaid : Prop := Claim7.holds Tryd.pinned (.plain (OpenSpec.ofChange metSpec)) metCard

/-- THE SECOND FORM's CARD OF 'surdkeep.Repeats'. -/
def repeatsUptoCard : Claim7 := { stood := { row := repeatsUptoRow, standIns := [], harness := (true, "cea30677584d18f400d3e43a3c6650f41668c32c9f6650616c7db955452e35e2"), looks := false }, kinds := [], alts := [], laidByText := true, laidKinds := [.data, .data, .data], laidTests := true, laidLooks := .later }
def RepeatsUptoCardSaid : Prop := Claim7.holds Tryd.pinned (.plain (OpenSpec.upto repeatsSpec)) repeatsUptoCard

/-- THE SECOND FORM's CARD OF 'surdkeep.Mirror'. -/
def mirrorUptoCard : Claim7 := { stood := { row := mirrorUptoRow, standIns := [], harness := (true, "cea30677584d18f400d3e43a3c6650f41668c32c9f6650616c7db955452e35e2"), looks := false }, kinds := [], alts := [], laidByText := true, laidKinds := [.data, .data, .data], laidTests := true, laidLooks := .later }
def MirrorUptoCardSaid : Prop := Claim7.holds Tryd.pinned (.plain (OpenSpec.upto mirrorSpec)) mirrorUptoCard

/-- THE SECOND FORM's CARD OF 'surdlaw.Pells'. -/
def pellsUptoCard : Claim7 := { stood := { row := pellsUptoRow, standIns := [], harness := (true, "cea30677584d18f400d3e43a3c6650f41668c32c9f6650616c7db955452e35e2"), looks := false }, kinds := [], alts := [], laidByText := true, laidKinds := [.data, .data, .data], laidTests := true, laidLooks := .later }
def PellsUptoCardSaid : Prop := Claim7.holds Tryd.pinned (.plain (OpenSpec.upto pellsSpec)) pellsUptoCard

/-- THE SECOND FORM's CARD OF 'surdlaw.Lines'. -/
def linesUptoCard : Claim7 := { stood := { row := linesUptoRow, standIns := [], harness := (true, "cea30677584d18f400d3e43a3c6650f41668c32c9f6650616c7db955452e35e2"), looks := false }, kinds := [], alts := [], laidByText := true, laidKinds := [.data, .data, .data], laidTests := true, laidLooks := .later }
def LinesUptoCardSaid : Prop := Claim7.holds Tryd.pinned (.plain (OpenSpec.upto linesSpec)) linesUptoCard

/-- THE SECOND FORM's CARD OF 'surdkeep.Solved'. -/
def solvedUptoCard : Claim7 := { stood := { row := solvedUptoRow, standIns := [], harness := (true, "cea30677584d18f400d3e43a3c6650f41668c32c9f6650616c7db955452e35e2"), looks := false }, kinds := [], alts := [], laidByText := true, laidKinds := [.data, .data, .data], laidTests := true, laidLooks := .later }
def SolvedUptoCardSaid : Prop := Claim7.holds Tryd.pinned (.plain (OpenSpec.upto solvedSpec)) solvedUptoCard

/-- THE SECOND FORM's CARD OF 'surdkeep.Met'. -/
def metUptoCard : Claim7 := { stood := { row := metUptoRow, standIns := [], harness := (true, "cea30677584d18f400d3e43a3c6650f41668c32c9f6650616c7db955452e35e2"), looks := false }, kinds := [], alts := [], laidByText := true, laidKinds := [.data, .data, .data], laidTests := true, laidLooks := .later }
def MetUptoCardSaid : Prop := Claim7.holds Tryd.pinned (.plain (OpenSpec.upto metSpec)) metUptoCard
end Rows
end Go.Proofs.YtjahbjjekednfabDoor
