/-
  DERIVED. GIVEN WITH THE SEED: THE CARDS: each row of YtjahbjjekednfaaGreatDoorRows.lean that lists a variable, with what it lists TIED to the program's text (the seventh form; the later family's looks); each row that meets fmt, with fmt's text TOLD by the authors' own Lean function (tested against real Go, not proved from fmt's source: count such statements apart). THE CARD IS WHAT COUNTS. Prove the row's statement (the work); the ties are given (YtjahbjjekednfaaGreatDoorTie.lean); close each card by the builder's one call (the guide's Derived/Test/ToyasCard.lean, 'card_holds'). Laid BY PROGRAM, IN A SANDBOX (cutbox-door.mjs). By AI agents, Wed Nov 11 2026. No macro, syntax, notation, axiom, sorry.
-/
import Derived.Test.YtjahbjjekednfaaGreatDoorRows
import GoSem.ClaimSeven
namespace Go.Proofs.YtjahbjjekednfaaGreatDoor
namespace Rows

/-- THE TIED CARD OF 'surdlaw.Expands'. -/
def expandsCard : Claim7 := { stood := { row := expandsRow, standIns := [], harness := (true, "1ed7f503f6a12d948aec4f14cf606009eadcbae4f361b5a2a70ec5d9fda66657"), looks := false }, kinds := [], alts := [], laidByText := true, laidKinds := [.data, .data, .data], laidTests := true, laidLooks := .later }
def ExpandsCardSaid : Prop := Claim7.holds Tryz.pinned (.plain (OpenSpec.ofChange expandsSpec)) expandsCard

/-- THE TIED CARD OF 'surdlaw.Nears'. -/
def nearsCard : Claim7 := { stood := { row := nearsRow, standIns := [], harness := (true, "1ed7f503f6a12d948aec4f14cf606009eadcbae4f361b5a2a70ec5d9fda66657"), looks := false }, kinds := [], alts := [], laidByText := true, laidKinds := [.data, .data, .data], laidTests := true, laidLooks := .later }
def NearsCardSaid : Prop := Claim7.holds Tryz.pinned (.plain (OpenSpec.ofChange nearsSpec)) nearsCard

/-- THE TIED CARD OF 'surdlaw.Bests'. -/
def bestsCard : Claim7 := { stood := { row := bestsRow, standIns := [], harness := (true, "1ed7f503f6a12d948aec4f14cf606009eadcbae4f361b5a2a70ec5d9fda66657"), looks := false }, kinds := [], alts := [], laidByText := true, laidKinds := [.data, .data, .data], laidTests := true, laidLooks := .later }
def BestsCardSaid : Prop := Claim7.holds Tryz.pinned (.plain (OpenSpec.ofChange bestsSpec)) bestsCard

/-- THE SECOND FORM's CARD OF 'surdlaw.Expands'. -/
def expandsUptoCard : Claim7 := { stood := { row := expandsUptoRow, standIns := [], harness := (true, "1ed7f503f6a12d948aec4f14cf606009eadcbae4f361b5a2a70ec5d9fda66657"), looks := false }, kinds := [], alts := [], laidByText := true, laidKinds := [.data, .data, .data], laidTests := true, laidLooks := .later }
def ExpandsUptoCardSaid : Prop := Claim7.holds Tryz.pinned (.plain (OpenSpec.upto expandsSpec)) expandsUptoCard

/-- THE SECOND FORM's CARD OF 'surdlaw.Nears'. -/
def nearsUptoCard : Claim7 := { stood := { row := nearsUptoRow, standIns := [], harness := (true, "1ed7f503f6a12d948aec4f14cf606009eadcbae4f361b5a2a70ec5d9fda66657"), looks := false }, kinds := [], alts := [], laidByText := true, laidKinds := [.data, .data, .data], laidTests := true, laidLooks := .later }
def NearsUptoCardSaid : Prop := Claim7.holds Tryz.pinned (.plain (OpenSpec.upto nearsSpec)) nearsUptoCard

/-- THE SECOND FORM's CARD OF 'surdlaw.Bests'. -/
def bestsUptoCard : Claim7 := { stood := { row := bestsUptoRow, standIns := [], harness := (true, "1ed7f503f6a12d948aec4f14cf606009eadcbae4f361b5a2a70ec5d9fda66657"), looks := false }, kinds := [], alts := [], laidByText := true, laidKinds := [.data, .data, .data], laidTests := true, laidLooks := .later }
def BestsUptoCardSaid : Prop := Claim7.holds Tryz.pinned (.plain (OpenSpec.upto bestsSpec)) bestsUptoCard
end Rows
end Go.Proofs.YtjahbjjekednfaaGreatDoor
