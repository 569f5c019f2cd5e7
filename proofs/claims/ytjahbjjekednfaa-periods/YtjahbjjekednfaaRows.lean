/-
  No cell of these rows narrows 'for every input' (looked for: loops, veiled, ifaces, maps, wideKeys, modest, calm, conditions, laid).
  DERIVED. THE GIVEN ROWS OF THIS SEAT. 3 by the template 'for every input the law returns true; each argument reads behind the call as it read before'; 0 by the template 'total and deterministic' (their statements: YtjahbjjekednfaaTotals.lean).
  GIVEN WITH THE SEED: the statements are not yours to turn. If you find one false, say at which input.
  Laid BY PROGRAM, IN A SANDBOX (cutbox-rows.mjs): the forced cells as the released guide's own fill.sh prints them over the translation 3107641e0067c4af… (all of the seat's roots in one cut). By AI agents, Wed Nov 11 2026. No macro, syntax, notation, axiom, sorry.
-/
import Derived.Test.YtjahbjjekednfaaChecked
import GoSem.Claim
import GoSem.ClaimJoined
import GoSem.ClaimMapViews
import Derived.JoinedTies
import Derived.KernelRfl
namespace Go.Proofs.Ytjahbjjekednfaa
/- THE CELL 'sum', in the pinned program and in every row, IS THE sha256 OF THE DUMP (.gsa) THAT YtjahbjjekednfaaProg.lean LOADS. Nothing in Lean hashes anything: it is a label: what it is worth is what the hold of that sum in a sandbox is worth. -/
noncomputable def Try.pinned : Pinned := { name := "ytjahbjjekednfaa", sum := "3107641e0067c4af3c6808c59ec81608b0ae1cc92d4ed8a04d6c5237a01926c3", checked := Try.checked }
namespace Rows
def none {H : Type} : Left H := { results := [], args := [] }

/-- 'surdlaw.Checks': WHATEVER THE INPUT: true; the input reads as it did. -/
def checksSpec : ChangeSpec := { name := "checks", fn := fun _ => fun
  | [d] => { results := [.lit (.bool true)], args := [d] }
  | _ => none }
def checksRow : OpenClaim := { program := "ytjahbjjekednfaa", sum := "3107641e0067c4af3c6808c59ec81608b0ae1cc92d4ed8a04d6c5237a01926c3", func := "surd/surdlaw.Checks", spec := "checks", recurses := true, apart := false }
def ChecksSaid : Prop := checksRow.holds Try.pinned (OpenSpec.ofChange checksSpec)

/-- ITS FALSE NEIGHBOUR: 'it returns false'. Refute it at one input. -/
def checksWrong : ChangeSpec := { name := "checks", fn := fun _ => fun
  | [d] => { results := [.lit (.bool false)], args := [d] }
  | _ => none }
def ChecksWrongFalsely : Prop := checksRow.holds Try.pinned (OpenSpec.ofChange checksWrong)

/-- 'surdlaw.Compares': WHATEVER THE INPUT: true; the input reads as it did. -/
def comparesSpec : ChangeSpec := { name := "compares", fn := fun _ => fun
  | [d1, d2] => { results := [.lit (.bool true)], args := [d1, d2] }
  | _ => none }
def comparesRow : OpenClaim := { program := "ytjahbjjekednfaa", sum := "3107641e0067c4af3c6808c59ec81608b0ae1cc92d4ed8a04d6c5237a01926c3", func := "surd/surdlaw.Compares", spec := "compares", recurses := true, apart := false }
def ComparesSaid : Prop := comparesRow.holds Try.pinned (OpenSpec.ofChange comparesSpec)

/-- ITS FALSE NEIGHBOUR: 'it returns false'. Refute it at one input. -/
def comparesWrong : ChangeSpec := { name := "compares", fn := fun _ => fun
  | [d1, d2] => { results := [.lit (.bool false)], args := [d1, d2] }
  | _ => none }
def ComparesWrongFalsely : Prop := comparesRow.holds Try.pinned (OpenSpec.ofChange comparesWrong)

/-- 'surdlaw.Periods': WHATEVER THE INPUT: true; the input reads as it did. -/
def periodsSpec : ChangeSpec := { name := "periods", fn := fun _ => fun
  | [d] => { results := [.lit (.bool true)], args := [d] }
  | _ => none }
def periodsRow : OpenClaim := { program := "ytjahbjjekednfaa", sum := "3107641e0067c4af3c6808c59ec81608b0ae1cc92d4ed8a04d6c5237a01926c3", func := "surd/surdlaw.Periods", spec := "periods", recurses := true, apart := false }
def PeriodsSaid : Prop := periodsRow.holds Try.pinned (OpenSpec.ofChange periodsSpec)

/-- ITS FALSE NEIGHBOUR: 'it returns false'. Refute it at one input. -/
def periodsWrong : ChangeSpec := { name := "periods", fn := fun _ => fun
  | [d] => { results := [.lit (.bool false)], args := [d] }
  | _ => none }
def PeriodsWrongFalsely : Prop := periodsRow.holds Try.pinned (OpenSpec.ofChange periodsWrong)

/- THE SECOND FORM. 'bulk': how many values and letters a reading holds, each counted each time it is reached (what is shared counts as often as it is met; a slice's spare places count too). A statement '..UptoSaid' is the law's where the arguments, and the package variables that the reading takes, are together of bulk at most 1048576: NARROWER than '..Said'. Prove '..Said' where nothing that the law and all that it calls make is longer than what came in: it says more and counts as full. Else prove '..UptoSaid'. A law counts once. -/
mutual
def uptoBulk {H : Type} : DataW H → Nat
  | .lit (.string bytes) => bytes.length + 1
  | .lit _ => 1
  | .nil => 1
  | .ptr d => uptoBulk d + 1
  | .slice elems spare => uptoBulkAll elems + uptoBulkAll spare + 1
  | .agg parts => uptoBulkAll parts + 1
  | .iface _ d => uptoBulk d + 1
  | .map entries => uptoBulkEntries entries + 1
  | .held _ => 1
def uptoBulkAll {H : Type} : List (DataW H) → Nat
  | [] => 0
  | d :: r => uptoBulk d + uptoBulkAll r
def uptoBulkEntries {H : Type} : List (Lit × DataW H) → Nat
  | [] => 0
  | x :: r => uptoBulkEntry x + uptoBulkEntries r
def uptoBulkEntry {H : Type} : Lit × DataW H → Nat
  | (.string bytes, d) => bytes.length + uptoBulk d + 1
  | (_, d) => uptoBulk d + 1
 end
def uptoSmall : (H : Type) → List (DataW H) → Bool := fun _ ds => decide (uptoBulkAll ds ≤ 1048576)
def OpenSpec.upto (s : _root_.Go.ChangeSpec) : _root_.Go.OpenSpec := { _root_.Go.OpenSpec.ofChange s with cond := some uptoSmall }

/-- 'surdlaw.Checks', WHERE WHAT IT READS IS OF BULK AT MOST 1048576: true; the input reads as it did. -/
def checksUptoRow : OpenClaim := { program := "ytjahbjjekednfaa", sum := "3107641e0067c4af3c6808c59ec81608b0ae1cc92d4ed8a04d6c5237a01926c3", func := "surd/surdlaw.Checks", spec := "checks", recurses := true, apart := false, narrowed := true }
def ChecksUptoSaid : Prop := checksUptoRow.holds Try.pinned (OpenSpec.upto checksSpec)

/-- 'surdlaw.Compares', WHERE WHAT IT READS IS OF BULK AT MOST 1048576: true; the input reads as it did. -/
def comparesUptoRow : OpenClaim := { program := "ytjahbjjekednfaa", sum := "3107641e0067c4af3c6808c59ec81608b0ae1cc92d4ed8a04d6c5237a01926c3", func := "surd/surdlaw.Compares", spec := "compares", recurses := true, apart := false, narrowed := true }
def ComparesUptoSaid : Prop := comparesUptoRow.holds Try.pinned (OpenSpec.upto comparesSpec)

/-- 'surdlaw.Periods', WHERE WHAT IT READS IS OF BULK AT MOST 1048576: true; the input reads as it did. -/
def periodsUptoRow : OpenClaim := { program := "ytjahbjjekednfaa", sum := "3107641e0067c4af3c6808c59ec81608b0ae1cc92d4ed8a04d6c5237a01926c3", func := "surd/surdlaw.Periods", spec := "periods", recurses := true, apart := false, narrowed := true }
def PeriodsUptoSaid : Prop := periodsUptoRow.holds Try.pinned (OpenSpec.upto periodsSpec)

end Rows
end Go.Proofs.Ytjahbjjekednfaa
