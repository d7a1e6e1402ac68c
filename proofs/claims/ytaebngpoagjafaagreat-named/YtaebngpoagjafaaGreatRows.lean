/-
  No cell of these rows narrows 'for every input' (looked for: loops, veiled, ifaces, maps, wideKeys, modest, calm, conditions, laid).
  DERIVED. THE GIVEN ROWS OF THIS SEAT. 9 by the template 'for every input the law returns true; each argument reads behind the call as it read before'; 0 by the template 'total and deterministic' (their statements: YtaebngpoagjafaaGreatTotals.lean).
  GIVEN WITH THE SEED: the statements are not yours to turn. If you find one false, say at which input.
  Laid BY PROGRAM, IN A SANDBOX (cutbox-rows.mjs): the forced cells as the released guide's own fill.sh prints them over the translation 7171aeaa0170d852… (all of the seat's roots in one cut). By AI agents, Wed Nov 11 2026. No macro, syntax, notation, axiom, sorry.
-/
import Derived.Test.YtaebngpoagjafaaGreatChecked
import GoSem.Claim
import GoSem.ClaimJoined
import GoSem.ClaimMapViews
import Derived.JoinedTies
import Derived.KernelRfl
namespace Go.Proofs.YtaebngpoagjafaaGreat
/- THE CELL 'sum', in the pinned program and in every row, IS THE sha256 OF THE DUMP (.gsa) THAT YtaebngpoagjafaaGreatProg.lean LOADS. Nothing in Lean hashes anything: it is a label: what it is worth is what the hold of that sum in a sandbox is worth. -/
noncomputable def Tryz.pinned : Pinned := { name := "ytaebngpoagjafaagreat", sum := "7171aeaa0170d8522600a9853f37498ad7e7692499adf25e937bae70b7355697", checked := Tryz.checked }
namespace Rows
def none {H : Type} : Left H := { results := [], args := [] }

/-- 'steerlaw.Matches': WHATEVER THE INPUT: true; the input reads as it did. -/
def matchesSpec : ChangeSpec := { name := "matches", fn := fun _ => fun
  | [d1, d2] => { results := [.lit (.bool true)], args := [d1, d2] }
  | _ => none }
def matchesRow : OpenClaim := { program := "ytaebngpoagjafaagreat", sum := "7171aeaa0170d8522600a9853f37498ad7e7692499adf25e937bae70b7355697", func := "steer/steerlaw.Matches", spec := "matches", recurses := true, apart := false }
def MatchesSaid : Prop := matchesRow.holds Tryz.pinned (OpenSpec.ofChange matchesSpec)

/-- ITS FALSE NEIGHBOUR: 'it returns false'. Refute it at one input. -/
def matchesWrong : ChangeSpec := { name := "matches", fn := fun _ => fun
  | [d1, d2] => { results := [.lit (.bool false)], args := [d1, d2] }
  | _ => none }
def MatchesWrongFalsely : Prop := matchesRow.holds Tryz.pinned (OpenSpec.ofChange matchesWrong)

/-- 'steerlaw.Checks': WHATEVER THE INPUT: true; the input reads as it did. -/
def checksSpec : ChangeSpec := { name := "checks", fn := fun _ => fun
  | [d1, d2] => { results := [.lit (.bool true)], args := [d1, d2] }
  | _ => none }
def checksRow : OpenClaim := { program := "ytaebngpoagjafaagreat", sum := "7171aeaa0170d8522600a9853f37498ad7e7692499adf25e937bae70b7355697", func := "steer/steerlaw.Checks", spec := "checks", recurses := true, apart := false }
def ChecksSaid : Prop := checksRow.holds Tryz.pinned (OpenSpec.ofChange checksSpec)

/-- ITS FALSE NEIGHBOUR: 'it returns false'. Refute it at one input. -/
def checksWrong : ChangeSpec := { name := "checks", fn := fun _ => fun
  | [d1, d2] => { results := [.lit (.bool false)], args := [d1, d2] }
  | _ => none }
def ChecksWrongFalsely : Prop := checksRow.holds Tryz.pinned (OpenSpec.ofChange checksWrong)

/-- 'steerlaw.Sizes': WHATEVER THE INPUT: true; the input reads as it did. -/
def sizesSpec : ChangeSpec := { name := "sizes", fn := fun _ => fun
  | [d1, d2] => { results := [.lit (.bool true)], args := [d1, d2] }
  | _ => none }
def sizesRow : OpenClaim := { program := "ytaebngpoagjafaagreat", sum := "7171aeaa0170d8522600a9853f37498ad7e7692499adf25e937bae70b7355697", func := "steer/steerlaw.Sizes", spec := "sizes", recurses := true, apart := false }
def SizesSaid : Prop := sizesRow.holds Tryz.pinned (OpenSpec.ofChange sizesSpec)

/-- ITS FALSE NEIGHBOUR: 'it returns false'. Refute it at one input. -/
def sizesWrong : ChangeSpec := { name := "sizes", fn := fun _ => fun
  | [d1, d2] => { results := [.lit (.bool false)], args := [d1, d2] }
  | _ => none }
def SizesWrongFalsely : Prop := sizesRow.holds Tryz.pinned (OpenSpec.ofChange sizesWrong)

/-- 'steerlaw.Compiles': WHATEVER THE INPUT: true; the input reads as it did. -/
def compilesSpec : ChangeSpec := { name := "compiles", fn := fun _ => fun
  | [d1, d2] => { results := [.lit (.bool true)], args := [d1, d2] }
  | _ => none }
def compilesRow : OpenClaim := { program := "ytaebngpoagjafaagreat", sum := "7171aeaa0170d8522600a9853f37498ad7e7692499adf25e937bae70b7355697", func := "steer/steerlaw.Compiles", spec := "compiles", recurses := true, apart := false }
def CompilesSaid : Prop := compilesRow.holds Tryz.pinned (OpenSpec.ofChange compilesSpec)

/-- ITS FALSE NEIGHBOUR: 'it returns false'. Refute it at one input. -/
def compilesWrong : ChangeSpec := { name := "compiles", fn := fun _ => fun
  | [d1, d2] => { results := [.lit (.bool false)], args := [d1, d2] }
  | _ => none }
def CompilesWrongFalsely : Prop := compilesRow.holds Tryz.pinned (OpenSpec.ofChange compilesWrong)

/-- 'steerlaw.Runs': WHATEVER THE INPUT: true; the input reads as it did. -/
def runsSpec : ChangeSpec := { name := "runs", fn := fun _ => fun
  | [d1, d2] => { results := [.lit (.bool true)], args := [d1, d2] }
  | _ => none }
def runsRow : OpenClaim := { program := "ytaebngpoagjafaagreat", sum := "7171aeaa0170d8522600a9853f37498ad7e7692499adf25e937bae70b7355697", func := "steer/steerlaw.Runs", spec := "runs", recurses := true, apart := false }
def RunsSaid : Prop := runsRow.holds Tryz.pinned (OpenSpec.ofChange runsSpec)

/-- ITS FALSE NEIGHBOUR: 'it returns false'. Refute it at one input. -/
def runsWrong : ChangeSpec := { name := "runs", fn := fun _ => fun
  | [d1, d2] => { results := [.lit (.bool false)], args := [d1, d2] }
  | _ => none }
def RunsWrongFalsely : Prop := runsRow.holds Tryz.pinned (OpenSpec.ofChange runsWrong)

/-- 'steerkeep.Scoped': WHATEVER THE INPUT: true; the input reads as it did. -/
def scopedSpec : ChangeSpec := { name := "scoped", fn := fun _ => fun
  | [d1, d2, d3] => { results := [.lit (.bool true)], args := [d1, d2, d3] }
  | _ => none }
def scopedRow : OpenClaim := { program := "ytaebngpoagjafaagreat", sum := "7171aeaa0170d8522600a9853f37498ad7e7692499adf25e937bae70b7355697", func := "steer/steerkeep.Scoped", spec := "scoped", recurses := true, apart := false }
def ScopedSaid : Prop := scopedRow.holds Tryz.pinned (OpenSpec.ofChange scopedSpec)

/-- ITS FALSE NEIGHBOUR: 'it returns false'. Refute it at one input. -/
def scopedWrong : ChangeSpec := { name := "scoped", fn := fun _ => fun
  | [d1, d2, d3] => { results := [.lit (.bool false)], args := [d1, d2, d3] }
  | _ => none }
def ScopedWrongFalsely : Prop := scopedRow.holds Tryz.pinned (OpenSpec.ofChange scopedWrong)

/-- 'steerkeep.Blanks': WHATEVER THE INPUT: true; the input reads as it did. -/
def blanksSpec : ChangeSpec := { name := "blanks", fn := fun _ => fun
  | [d1, d2, d3] => { results := [.lit (.bool true)], args := [d1, d2, d3] }
  | _ => none }
def blanksRow : OpenClaim := { program := "ytaebngpoagjafaagreat", sum := "7171aeaa0170d8522600a9853f37498ad7e7692499adf25e937bae70b7355697", func := "steer/steerkeep.Blanks", spec := "blanks", recurses := true, apart := false }
def BlanksSaid : Prop := blanksRow.holds Tryz.pinned (OpenSpec.ofChange blanksSpec)

/-- ITS FALSE NEIGHBOUR: 'it returns false'. Refute it at one input. -/
def blanksWrong : ChangeSpec := { name := "blanks", fn := fun _ => fun
  | [d1, d2, d3] => { results := [.lit (.bool false)], args := [d1, d2, d3] }
  | _ => none }
def BlanksWrongFalsely : Prop := blanksRow.holds Tryz.pinned (OpenSpec.ofChange blanksWrong)

/-- 'steerkeep.Named': WHATEVER THE INPUT: true; the input reads as it did. -/
def namedSpec : ChangeSpec := { name := "named", fn := fun _ => fun
  | [d1, d2] => { results := [.lit (.bool true)], args := [d1, d2] }
  | _ => none }
def namedRow : OpenClaim := { program := "ytaebngpoagjafaagreat", sum := "7171aeaa0170d8522600a9853f37498ad7e7692499adf25e937bae70b7355697", func := "steer/steerkeep.Named", spec := "named", recurses := true, apart := false }
def NamedSaid : Prop := namedRow.holds Tryz.pinned (OpenSpec.ofChange namedSpec)

/-- ITS FALSE NEIGHBOUR: 'it returns false'. Refute it at one input. -/
def namedWrong : ChangeSpec := { name := "named", fn := fun _ => fun
  | [d1, d2] => { results := [.lit (.bool false)], args := [d1, d2] }
  | _ => none }
def NamedWrongFalsely : Prop := namedRow.holds Tryz.pinned (OpenSpec.ofChange namedWrong)

/-- 'steerkeep.Fuelled': WHATEVER THE INPUT: true; the input reads as it did. -/
def fuelledSpec : ChangeSpec := { name := "fuelled", fn := fun _ => fun
  | [d1, d2, d3, d4] => { results := [.lit (.bool true)], args := [d1, d2, d3, d4] }
  | _ => none }
def fuelledRow : OpenClaim := { program := "ytaebngpoagjafaagreat", sum := "7171aeaa0170d8522600a9853f37498ad7e7692499adf25e937bae70b7355697", func := "steer/steerkeep.Fuelled", spec := "fuelled", recurses := true, apart := false }
def FuelledSaid : Prop := fuelledRow.holds Tryz.pinned (OpenSpec.ofChange fuelledSpec)

/-- ITS FALSE NEIGHBOUR: 'it returns false'. Refute it at one input. -/
def fuelledWrong : ChangeSpec := { name := "fuelled", fn := fun _ => fun
  | [d1, d2, d3, d4] => { results := [.lit (.bool false)], args := [d1, d2, d3, d4] }
  | _ => none }
def FuelledWrongFalsely : Prop := fuelledRow.holds Tryz.pinned (OpenSpec.ofChange fuelledWrong)

/- THE SECOND FORM. 'bulk': how many values and letters a reading holds, each counted each time it is reached (what is shared counts as often as it is met; a slice's spare places count too). A statement '..UptoSaid' is the law's where the arguments, and the package variables that the reading takes, are together of bulk at most 1048576: NARROWER than '..Said'. Prove '..Said' where nothing that the law and all that it calls make is longer than what came in: it says more and counts as full. Else prove '..UptoSaid'. A law counts once. -/
mutual
def uptoBulk {H : Type} : DataW H → Nat
  | .lit (.string bytes) => bytes.length + 1
  | .lit _ => 1
  | .nil => 1
  | .ptr d => uptoBulk d + 1
  | .slice elems spare => uptoBulkAll elems + uptoBulkAll spare + 1
  | .agg parts => uptoBulkAll parts + 1
  | .iface _ d => uptoBulk d + 1
  | .map entries => uptoBulkEntries entries + 1
  | .held _ => 1
def uptoBulkAll {H : Type} : List (DataW H) → Nat
  | [] => 0
  | d :: r => uptoBulk d + uptoBulkAll r
def uptoBulkEntries {H : Type} : List (Lit × DataW H) → Nat
  | [] => 0
  | x :: r => uptoBulkEntry x + uptoBulkEntries r
def uptoBulkEntry {H : Type} : Lit × DataW H → Nat
  | (.string bytes, d) => bytes.length + uptoBulk d + 1
  | (_, d) => uptoBulk d + 1
 end
def uptoSmall : (H : Type) → List (DataW H) → Bool := fun _ ds => decide (uptoBulkAll ds ≤ 1048576)
def OpenSpec.upto (s : _root_.Go.ChangeSpec) : _root_.Go.OpenSpec := { _root_.Go.OpenSpec.ofChange s with cond := some uptoSmall }

/-- 'steerlaw.Matches', WHERE WHAT IT READS IS OF BULK AT MOST 1048576: true; the input reads as it did. -/
def matchesUptoRow : OpenClaim := { program := "ytaebngpoagjafaagreat", sum := "7171aeaa0170d8522600a9853f37498ad7e7692499adf25e937bae70b7355697", func := "steer/steerlaw.Matches", spec := "matches", recurses := true, apart := false, narrowed := true }
def MatchesUptoSaid : Prop := matchesUptoRow.holds Tryz.pinned (OpenSpec.upto matchesSpec)

/-- 'steerlaw.Checks', WHERE WHAT IT READS IS OF BULK AT MOST 1048576: true; the input reads as it did. -/
def checksUptoRow : OpenClaim := { program := "ytaebngpoagjafaagreat", sum := "7171aeaa0170d8522600a9853f37498ad7e7692499adf25e937bae70b7355697", func := "steer/steerlaw.Checks", spec := "checks", recurses := true, apart := false, narrowed := true }
def ChecksUptoSaid : Prop := checksUptoRow.holds Tryz.pinned (OpenSpec.upto checksSpec)

/-- 'steerlaw.Sizes', WHERE WHAT IT READS IS OF BULK AT MOST 1048576: true; the input reads as it did. -/
def sizesUptoRow : OpenClaim := { program := "ytaebngpoagjafaagreat", sum := "7171aeaa0170d8522600a9853f37498ad7e7692499adf25e937bae70b7355697", func := "steer/steerlaw.Sizes", spec := "sizes", recurses := true, apart := false, narrowed := true }
def SizesUptoSaid : Prop := sizesUptoRow.holds Tryz.pinned (OpenSpec.upto sizesSpec)

/-- 'steerlaw.Compiles', WHERE WHAT IT READS IS OF BULK AT MOST 1048576: true; the input reads as it did. -/
def compilesUptoRow : OpenClaim := { program := "ytaebngpoagjafaagreat", sum := "7171aeaa0170d8522600a9853f37498ad7e7692499adf25e937bae70b7355697", func := "steer/steerlaw.Compiles", spec := "compiles", recurses := true, apart := false, narrowed := true }
def CompilesUptoSaid : Prop := compilesUptoRow.holds Tryz.pinned (OpenSpec.upto compilesSpec)

/-- 'steerlaw.Runs', WHERE WHAT IT READS IS OF BULK AT MOST 1048576: true; the input reads as it did. -/
def runsUptoRow : OpenClaim := { program := "ytaebngpoagjafaagreat", sum := "7171aeaa0170d8522600a9853f37498ad7e7692499adf25e937bae70b7355697", func := "steer/steerlaw.Runs", spec := "runs", recurses := true, apart := false, narrowed := true }
def RunsUptoSaid : Prop := runsUptoRow.holds Tryz.pinned (OpenSpec.upto runsSpec)

/-- 'steerkeep.Scoped', WHERE WHAT IT READS IS OF BULK AT MOST 1048576: true; the input reads as it did. -/
def scopedUptoRow : OpenClaim := { program := "ytaebngpoagjafaagreat", sum := "7171aeaa0170d8522600a9853f37498ad7e7692499adf25e937bae70b7355697", func := "steer/steerkeep.Scoped", spec := "scoped", recurses := true, apart := false, narrowed := true }
def ScopedUptoSaid : Prop := scopedUptoRow.holds Tryz.pinned (OpenSpec.upto scopedSpec)

/-- 'steerkeep.Blanks', WHERE WHAT IT READS IS OF BULK AT MOST 1048576: true; the input reads as it did. -/
def blanksUptoRow : OpenClaim := { program := "ytaebngpoagjafaagreat", sum := "7171aeaa0170d8522600a9853f37498ad7e7692499adf25e937bae70b7355697", func := "steer/steerkeep.Blanks", spec := "blanks", recurses := true, apart := false, narrowed := true }
def BlanksUptoSaid : Prop := blanksUptoRow.holds Tryz.pinned (OpenSpec.upto blanksSpec)

/-- 'steerkeep.Named', WHERE WHAT IT READS IS OF BULK AT MOST 1048576: true; the input reads as it did. -/
def namedUptoRow : OpenClaim := { program := "ytaebngpoagjafaagreat", sum := "7171aeaa0170d8522600a9853f37498ad7e7692499adf25e937bae70b7355697", func := "steer/steerkeep.Named", spec := "named", recurses := true, apart := false, narrowed := true }
def NamedUptoSaid : Prop := namedUptoRow.holds Tryz.pinned (OpenSpec.upto namedSpec)

/-- 'steerkeep.Fuelled', WHERE WHAT IT READS IS OF BULK AT MOST 1048576: true; the input reads as it did. -/
def fuelledUptoRow : OpenClaim := { program := "ytaebngpoagjafaagreat", sum := "7171aeaa0170d8522600a9853f37498ad7e7692499adf25e937bae70b7355697", func := "steer/steerkeep.Fuelled", spec := "fuelled", recurses := true, apart := false, narrowed := true }
def FuelledUptoSaid : Prop := fuelledUptoRow.holds Tryz.pinned (OpenSpec.upto fuelledSpec)

end Rows
end Go.Proofs.YtaebngpoagjafaaGreat
