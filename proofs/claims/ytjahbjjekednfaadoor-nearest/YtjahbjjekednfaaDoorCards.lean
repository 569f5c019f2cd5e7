/-
  DERIVED. GIVEN WITH THE SEED: THE CARDS: each row of YtjahbjjekednfaaDoorRows.lean that lists a variable, with what it lists TIED to the program's text (the seventh form; the later family's looks); each row that meets fmt, with fmt's text TOLD by the authors' own Lean function (tested against real Go, not proved from fmt's source: count such statements apart). THE CARD IS WHAT COUNTS. Prove the row's statement (the work); the ties are given (YtjahbjjekednfaaDoorTie.lean); close each card by the builder's one call (the guide's Derived/Test/ToyasCard.lean, 'card_holds'). Laid BY PROGRAM, IN A SANDBOX (cutbox-door.mjs). By AI agents, Wed Nov 11 2026. No macro, syntax, notation, axiom, sorry.
-/
import Derived.Test.YtjahbjjekednfaaDoorRows
import GoSem.ClaimSeven
namespace Go.Proofs.YtjahbjjekednfaaDoor
namespace Rows

/-- THE TIED CARD OF 'surdlaw.Values'. -/
def valuesCard : Claim7 := { stood := { row := valuesRow, standIns := [], harness := (true, "7aea30d9a97bb9f971bfbc99d2eda0b1f8cf78db261701a46a6984768d660053"), looks := false }, kinds := [], alts := [], laidByText := true, laidKinds := [.data, .data, .data], laidTests := true, laidLooks := .later }
def ValuesCardSaid : Prop := Claim7.holds Tryd.pinned (.plain (OpenSpec.ofChange valuesSpec)) valuesCard

/-- THE TIED CARD OF 'surdkeep.Algebra'. -/
def algebraCard : Claim7 := { stood := { row := algebraRow, standIns := [], harness := (true, "7aea30d9a97bb9f971bfbc99d2eda0b1f8cf78db261701a46a6984768d660053"), looks := false }, kinds := [], alts := [], laidByText := true, laidKinds := [.data, .data, .data], laidTests := true, laidLooks := .later }
def AlgebraCardSaid : Prop := Claim7.holds Tryd.pinned (.plain (OpenSpec.ofChange algebraSpec)) algebraCard

/-- THE TIED CARD OF 'surdkeep.Ordered'. -/
def orderedCard : Claim7 := { stood := { row := orderedRow, standIns := [], harness := (true, "7aea30d9a97bb9f971bfbc99d2eda0b1f8cf78db261701a46a6984768d660053"), looks := false }, kinds := [], alts := [], laidByText := true, laidKinds := [.data, .data, .data], laidTests := true, laidLooks := .later }
def OrderedCardSaid : Prop := Claim7.holds Tryd.pinned (.plain (OpenSpec.ofChange orderedSpec)) orderedCard

/-- THE TIED CARD OF 'surdkeep.Folded'. -/
def foldedCard : Claim7 := { stood := { row := foldedRow, standIns := [], harness := (true, "7aea30d9a97bb9f971bfbc99d2eda0b1f8cf78db261701a46a6984768d660053"), looks := false }, kinds := [], alts := [], laidByText := true, laidKinds := [.data, .data, .data], laidTests := true, laidLooks := .later }
def FoldedCardSaid : Prop := Claim7.holds Tryd.pinned (.plain (OpenSpec.ofChange foldedSpec)) foldedCard

/-- THE TIED CARD OF 'surdkeep.Squeezed'. -/
def squeezedCard : Claim7 := { stood := { row := squeezedRow, standIns := [], harness := (true, "7aea30d9a97bb9f971bfbc99d2eda0b1f8cf78db261701a46a6984768d660053"), looks := false }, kinds := [], alts := [], laidByText := true, laidKinds := [.data, .data, .data], laidTests := true, laidLooks := .later }
def SqueezedCardSaid : Prop := Claim7.holds Tryd.pinned (.plain (OpenSpec.ofChange squeezedSpec)) squeezedCard

/-- THE TIED CARD OF 'surdkeep.Nearest'. -/
def nearestCard : Claim7 := { stood := { row := nearestRow, standIns := [], harness := (true, "7aea30d9a97bb9f971bfbc99d2eda0b1f8cf78db261701a46a6984768d660053"), looks := false }, kinds := [], alts := [], laidByText := true, laidKinds := [.data, .data, .data], laidTests := true, laidLooks := .later }
def NearestCardSaid : Prop := Claim7.holds Tryd.pinned (.plain (OpenSpec.ofChange nearestSpec)) nearestCard

/-- THE SECOND FORM's CARD OF 'surdlaw.Values'. -/
def valuesUptoCard : Claim7 := { stood := { row := valuesUptoRow, standIns := [], harness := (true, "7aea30d9a97bb9f971bfbc99d2eda0b1f8cf78db261701a46a6984768d660053"), looks := false }, kinds := [], alts := [], laidByText := true, laidKinds := [.data, .data, .data], laidTests := true, laidLooks := .later }
def ValuesUptoCardSaid : Prop := Claim7.holds Tryd.pinned (.plain (OpenSpec.upto valuesSpec)) valuesUptoCard

/-- THE SECOND FORM's CARD OF 'surdkeep.Algebra'. -/
def algebraUptoCard : Claim7 := { stood := { row := algebraUptoRow, standIns := [], harness := (true, "7aea30d9a97bb9f971bfbc99d2eda0b1f8cf78db261701a46a6984768d660053"), looks := false }, kinds := [], alts := [], laidByText := true, laidKinds := [.data, .data, .data], laidTests := true, laidLooks := .later }
def AlgebraUptoCardSaid : Prop := Claim7.holds Tryd.pinned (.plain (OpenSpec.upto algebraSpec)) algebraUptoCard

/-- THE SECOND FORM's CARD OF 'surdkeep.Ordered'. -/
def orderedUptoCard : Claim7 := { stood := { row := orderedUptoRow, standIns := [], harness := (true, "7aea30d9a97bb9f971bfbc99d2eda0b1f8cf78db261701a46a6984768d660053"), looks := false }, kinds := [], alts := [], laidByText := true, laidKinds := [.data, .data, .data], laidTests := true, laidLooks := .later }
def OrderedUptoCardSaid : Prop := Claim7.holds Tryd.pinned (.plain (OpenSpec.upto orderedSpec)) orderedUptoCard

/-- THE SECOND FORM's CARD OF 'surdkeep.Folded'. -/
def foldedUptoCard : Claim7 := { stood := { row := foldedUptoRow, standIns := [], harness := (true, "7aea30d9a97bb9f971bfbc99d2eda0b1f8cf78db261701a46a6984768d660053"), looks := false }, kinds := [], alts := [], laidByText := true, laidKinds := [.data, .data, .data], laidTests := true, laidLooks := .later }
def FoldedUptoCardSaid : Prop := Claim7.holds Tryd.pinned (.plain (OpenSpec.upto foldedSpec)) foldedUptoCard

/-- THE SECOND FORM's CARD OF 'surdkeep.Squeezed'. -/
def squeezedUptoCard : Claim7 := { stood := { row := squeezedUptoRow, standIns := [], harness := (true, "7aea30d9a97bb9f971bfbc99d2eda0b1f8cf78db261701a46a6984768d660053"), looks := false }, kinds := [], alts := [], laidByText := true, laidKinds := [.data, .data, .data], laidTests := true, laidLooks := .later }
def SqueezedUptoCardSaid : Prop := Claim7.holds Tryd.pinned (.plain (OpenSpec.upto squeezedSpec)) squeezedUptoCard

/-- THE SECOND FORM's CARD OF 'surdkeep.Nearest'. -/
def nearestUptoCard : Claim7 := { stood := { row := nearestUptoRow, standIns := [], harness := (true, "7aea30d9a97bb9f971bfbc99d2eda0b1f8cf78db261701a46a6984768d660053"), looks := false }, kinds := [], alts := [], laidByText := true, laidKinds := [.data, .data, .data], laidTests := true, laidLooks := .later }
def NearestUptoCardSaid : Prop := Claim7.holds Tryd.pinned (.plain (OpenSpec.upto nearestSpec)) nearestUptoCard
end Rows
end Go.Proofs.YtjahbjjekednfaaDoor
