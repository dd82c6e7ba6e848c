/-
  No cell of these rows narrows 'for every input' (looked for: loops, veiled, ifaces, maps, wideKeys, modest, calm, conditions, laid).
  DERIVED. THE GIVEN ROWS OF THIS SEAT. 12 by the template 'for every input the law returns true; each argument reads behind the call as it read before'; 0 by the template 'total and deterministic' (their statements: YtmcfnkfcklcpnabTotals.lean).
  GIVEN WITH THE SEED: the statements are not yours to turn. If you find one false, say at which input.
  Laid BY PROGRAM, IN A SANDBOX (cutbox-rows.mjs): the forced cells as the released guide's own fill.sh prints them over the translation 0056f5082f4b43a5… (all of the seat's roots in one cut). By AI agents, Wed Nov 11 2026. No macro, syntax, notation, axiom, sorry.
-/
import Derived.Test.YtmcfnkfcklcpnabChecked
import GoSem.Claim
import GoSem.ClaimJoined
import GoSem.ClaimMapViews
import Derived.JoinedTies
import Derived.KernelRfl
namespace Go.Proofs.Ytmcfnkfcklcpnab
/- THE CELL 'sum', in the pinned program and in every row, IS THE sha256 OF THE DUMP (.gsa) THAT YtmcfnkfcklcpnabProg.lean LOADS. Nothing in Lean hashes anything: it is a label: what it is worth is what the hold of that sum in a sandbox is worth. -/
noncomputable def Try.pinned : Pinned := { name := "ytmcfnkfcklcpnab", sum := "0056f5082f4b43a5f0de9941bf472c77a1fcf83d7da6b89cec0226415630a351", checked := Try.checked }
namespace Rows
def none {H : Type} : Left H := { results := [], args := [] }

/-- 'laws.FnExactShareOfRated': WHATEVER THE INPUT: true; the input reads as it did. -/
def fnExactShareOfRatedSpec : ChangeSpec := { name := "fnExactShareOfRated", fn := fun _ => fun
  | [d1, d2] => { results := [.lit (.bool true)], args := [d1, d2] }
  | _ => none }
def fnExactShareOfRatedRow : OpenClaim := { program := "ytmcfnkfcklcpnab", sum := "0056f5082f4b43a5f0de9941bf472c77a1fcf83d7da6b89cec0226415630a351", func := "loop.example/g01256/laws.FnExactShareOfRated", spec := "fnExactShareOfRated", inPlace := ["math.Float64bits", "math.Float64frombits"], unfollowed := true, recurses := true, apart := false }
def FnExactShareOfRatedSaid : Prop := fnExactShareOfRatedRow.holds Try.pinned (OpenSpec.ofChange fnExactShareOfRatedSpec)

/-- ITS FALSE NEIGHBOUR: 'it returns false'. Refute it at one input. -/
def fnExactShareOfRatedWrong : ChangeSpec := { name := "fnExactShareOfRated", fn := fun _ => fun
  | [d1, d2] => { results := [.lit (.bool false)], args := [d1, d2] }
  | _ => none }
def FnExactShareOfRatedWrongFalsely : Prop := fnExactShareOfRatedRow.holds Try.pinned (OpenSpec.ofChange fnExactShareOfRatedWrong)

/-- 'laws.FnExactStepDrive': WHATEVER THE INPUT: true; the input reads as it did. -/
def fnExactStepDriveSpec : ChangeSpec := { name := "fnExactStepDrive", fn := fun _ => fun
  | [d1, d2, d3, d4] => { results := [.lit (.bool true)], args := [d1, d2, d3, d4] }
  | _ => none }
def fnExactStepDriveRow : OpenClaim := { program := "ytmcfnkfcklcpnab", sum := "0056f5082f4b43a5f0de9941bf472c77a1fcf83d7da6b89cec0226415630a351", func := "loop.example/g01256/laws.FnExactStepDrive", spec := "fnExactStepDrive", inPlace := ["math.Float64bits", "math.Float64frombits"], unfollowed := true, recurses := true, apart := false }
def FnExactStepDriveSaid : Prop := fnExactStepDriveRow.holds Try.pinned (OpenSpec.ofChange fnExactStepDriveSpec)

/-- ITS FALSE NEIGHBOUR: 'it returns false'. Refute it at one input. -/
def fnExactStepDriveWrong : ChangeSpec := { name := "fnExactStepDrive", fn := fun _ => fun
  | [d1, d2, d3, d4] => { results := [.lit (.bool false)], args := [d1, d2, d3, d4] }
  | _ => none }
def FnExactStepDriveWrongFalsely : Prop := fnExactStepDriveRow.holds Try.pinned (OpenSpec.ofChange fnExactStepDriveWrong)

/-- 'laws.FnExactRunDrive': WHATEVER THE INPUT: true; the input reads as it did. -/
def fnExactRunDriveSpec : ChangeSpec := { name := "fnExactRunDrive", fn := fun _ => fun
  | [d1, d2, d3, d4] => { results := [.lit (.bool true)], args := [d1, d2, d3, d4] }
  | _ => none }
def fnExactRunDriveRow : OpenClaim := { program := "ytmcfnkfcklcpnab", sum := "0056f5082f4b43a5f0de9941bf472c77a1fcf83d7da6b89cec0226415630a351", func := "loop.example/g01256/laws.FnExactRunDrive", spec := "fnExactRunDrive", inPlace := ["math.Float64bits", "math.Float64frombits"], unfollowed := true, recurses := true, apart := false }
def FnExactRunDriveSaid : Prop := fnExactRunDriveRow.holds Try.pinned (OpenSpec.ofChange fnExactRunDriveSpec)

/-- ITS FALSE NEIGHBOUR: 'it returns false'. Refute it at one input. -/
def fnExactRunDriveWrong : ChangeSpec := { name := "fnExactRunDrive", fn := fun _ => fun
  | [d1, d2, d3, d4] => { results := [.lit (.bool false)], args := [d1, d2, d3, d4] }
  | _ => none }
def FnExactRunDriveWrongFalsely : Prop := fnExactRunDriveRow.holds Try.pinned (OpenSpec.ofChange fnExactRunDriveWrong)

/-- 'laws.FnExactCountStates': WHATEVER THE INPUT: true; the input reads as it did. -/
def fnExactCountStatesSpec : ChangeSpec := { name := "fnExactCountStates", fn := fun _ => fun
  | [d] => { results := [.lit (.bool true)], args := [d] }
  | _ => none }
def fnExactCountStatesRow : OpenClaim := { program := "ytmcfnkfcklcpnab", sum := "0056f5082f4b43a5f0de9941bf472c77a1fcf83d7da6b89cec0226415630a351", func := "loop.example/g01256/laws.FnExactCountStates", spec := "fnExactCountStates", apart := false }
def FnExactCountStatesSaid : Prop := fnExactCountStatesRow.holds Try.pinned (OpenSpec.ofChange fnExactCountStatesSpec)

/-- ITS FALSE NEIGHBOUR: 'it returns false'. Refute it at one input. -/
def fnExactCountStatesWrong : ChangeSpec := { name := "fnExactCountStates", fn := fun _ => fun
  | [d] => { results := [.lit (.bool false)], args := [d] }
  | _ => none }
def FnExactCountStatesWrongFalsely : Prop := fnExactCountStatesRow.holds Try.pinned (OpenSpec.ofChange fnExactCountStatesWrong)

/-- 'laws.FnExactChangesIn': WHATEVER THE INPUT: true; the input reads as it did. -/
def fnExactChangesInSpec : ChangeSpec := { name := "fnExactChangesIn", fn := fun _ => fun
  | [d] => { results := [.lit (.bool true)], args := [d] }
  | _ => none }
def fnExactChangesInRow : OpenClaim := { program := "ytmcfnkfcklcpnab", sum := "0056f5082f4b43a5f0de9941bf472c77a1fcf83d7da6b89cec0226415630a351", func := "loop.example/g01256/laws.FnExactChangesIn", spec := "fnExactChangesIn", apart := false }
def FnExactChangesInSaid : Prop := fnExactChangesInRow.holds Try.pinned (OpenSpec.ofChange fnExactChangesInSpec)

/-- ITS FALSE NEIGHBOUR: 'it returns false'. Refute it at one input. -/
def fnExactChangesInWrong : ChangeSpec := { name := "fnExactChangesIn", fn := fun _ => fun
  | [d] => { results := [.lit (.bool false)], args := [d] }
  | _ => none }
def FnExactChangesInWrongFalsely : Prop := fnExactChangesInRow.holds Try.pinned (OpenSpec.ofChange fnExactChangesInWrong)

/-- 'laws.FnExactLongestIn': WHATEVER THE INPUT: true; the input reads as it did. -/
def fnExactLongestInSpec : ChangeSpec := { name := "fnExactLongestIn", fn := fun _ => fun
  | [d1, d2] => { results := [.lit (.bool true)], args := [d1, d2] }
  | _ => none }
def fnExactLongestInRow : OpenClaim := { program := "ytmcfnkfcklcpnab", sum := "0056f5082f4b43a5f0de9941bf472c77a1fcf83d7da6b89cec0226415630a351", func := "loop.example/g01256/laws.FnExactLongestIn", spec := "fnExactLongestIn", apart := false }
def FnExactLongestInSaid : Prop := fnExactLongestInRow.holds Try.pinned (OpenSpec.ofChange fnExactLongestInSpec)

/-- ITS FALSE NEIGHBOUR: 'it returns false'. Refute it at one input. -/
def fnExactLongestInWrong : ChangeSpec := { name := "fnExactLongestIn", fn := fun _ => fun
  | [d1, d2] => { results := [.lit (.bool false)], args := [d1, d2] }
  | _ => none }
def FnExactLongestInWrongFalsely : Prop := fnExactLongestInRow.holds Try.pinned (OpenSpec.ofChange fnExactLongestInWrong)

/-- 'laws.FnExactYawStep': WHATEVER THE INPUT: true; the input reads as it did. -/
def fnExactYawStepSpec : ChangeSpec := { name := "fnExactYawStep", fn := fun _ => fun
  | [d1, d2, d3, d4] => { results := [.lit (.bool true)], args := [d1, d2, d3, d4] }
  | _ => none }
def fnExactYawStepRow : OpenClaim := { program := "ytmcfnkfcklcpnab", sum := "0056f5082f4b43a5f0de9941bf472c77a1fcf83d7da6b89cec0226415630a351", func := "loop.example/g01256/laws.FnExactYawStep", spec := "fnExactYawStep", inPlace := ["math.archFloor", "math.Float64bits", "math.Float64frombits", "math.archTrunc"], apart := false }
def FnExactYawStepSaid : Prop := fnExactYawStepRow.holds Try.pinned (OpenSpec.ofChange fnExactYawStepSpec)

/-- ITS FALSE NEIGHBOUR: 'it returns false'. Refute it at one input. -/
def fnExactYawStepWrong : ChangeSpec := { name := "fnExactYawStep", fn := fun _ => fun
  | [d1, d2, d3, d4] => { results := [.lit (.bool false)], args := [d1, d2, d3, d4] }
  | _ => none }
def FnExactYawStepWrongFalsely : Prop := fnExactYawStepRow.holds Try.pinned (OpenSpec.ofChange fnExactYawStepWrong)

/-- 'laws.FnExactRunYaw': WHATEVER THE INPUT: true; the input reads as it did. -/
def fnExactRunYawSpec : ChangeSpec := { name := "fnExactRunYaw", fn := fun _ => fun
  | [d1, d2, d3, d4] => { results := [.lit (.bool true)], args := [d1, d2, d3, d4] }
  | _ => none }
def fnExactRunYawRow : OpenClaim := { program := "ytmcfnkfcklcpnab", sum := "0056f5082f4b43a5f0de9941bf472c77a1fcf83d7da6b89cec0226415630a351", func := "loop.example/g01256/laws.FnExactRunYaw", spec := "fnExactRunYaw", inPlace := ["math.archFloor", "math.Float64bits", "math.Float64frombits", "math.archTrunc"], unfollowed := true, recurses := true, apart := false }
def FnExactRunYawSaid : Prop := fnExactRunYawRow.holds Try.pinned (OpenSpec.ofChange fnExactRunYawSpec)

/-- ITS FALSE NEIGHBOUR: 'it returns false'. Refute it at one input. -/
def fnExactRunYawWrong : ChangeSpec := { name := "fnExactRunYaw", fn := fun _ => fun
  | [d1, d2, d3, d4] => { results := [.lit (.bool false)], args := [d1, d2, d3, d4] }
  | _ => none }
def FnExactRunYawWrongFalsely : Prop := fnExactRunYawRow.holds Try.pinned (OpenSpec.ofChange fnExactRunYawWrong)

/-- 'laws.FnExactTurnedBy': WHATEVER THE INPUT: true; the input reads as it did. -/
def fnExactTurnedBySpec : ChangeSpec := { name := "fnExactTurnedBy", fn := fun _ => fun
  | [d] => { results := [.lit (.bool true)], args := [d] }
  | _ => none }
def fnExactTurnedByRow : OpenClaim := { program := "ytmcfnkfcklcpnab", sum := "0056f5082f4b43a5f0de9941bf472c77a1fcf83d7da6b89cec0226415630a351", func := "loop.example/g01256/laws.FnExactTurnedBy", spec := "fnExactTurnedBy", inPlace := ["math.archFloor", "math.Float64bits", "math.Float64frombits", "math.archTrunc"], unfollowed := true, recurses := true, apart := false }
def FnExactTurnedBySaid : Prop := fnExactTurnedByRow.holds Try.pinned (OpenSpec.ofChange fnExactTurnedBySpec)

/-- ITS FALSE NEIGHBOUR: 'it returns false'. Refute it at one input. -/
def fnExactTurnedByWrong : ChangeSpec := { name := "fnExactTurnedBy", fn := fun _ => fun
  | [d] => { results := [.lit (.bool false)], args := [d] }
  | _ => none }
def FnExactTurnedByWrongFalsely : Prop := fnExactTurnedByRow.holds Try.pinned (OpenSpec.ofChange fnExactTurnedByWrong)

/-- 'laws.FnRules': WHATEVER THE INPUT: true; the input reads as it did. -/
def fnRulesSpec : ChangeSpec := { name := "fnRules", fn := fun _ => fun
  | [d1, d2] => { results := [.lit (.bool true)], args := [d1, d2] }
  | _ => none }
def fnRulesRow : OpenClaim := { program := "ytmcfnkfcklcpnab", sum := "0056f5082f4b43a5f0de9941bf472c77a1fcf83d7da6b89cec0226415630a351", func := "loop.example/g01256/laws.FnRules", spec := "fnRules", inPlace := ["math.Float64bits", "math.Float64frombits", "math.Float32bits"], unfollowed := true, recurses := true, apart := false }
def FnRulesSaid : Prop := fnRulesRow.holds Try.pinned (OpenSpec.ofChange fnRulesSpec)

/-- ITS FALSE NEIGHBOUR: 'it returns false'. Refute it at one input. -/
def fnRulesWrong : ChangeSpec := { name := "fnRules", fn := fun _ => fun
  | [d1, d2] => { results := [.lit (.bool false)], args := [d1, d2] }
  | _ => none }
def FnRulesWrongFalsely : Prop := fnRulesRow.holds Try.pinned (OpenSpec.ofChange fnRulesWrong)

/-- 'laws.FnDriveRuns': WHATEVER THE INPUT: true; the input reads as it did. -/
def fnDriveRunsSpec : ChangeSpec := { name := "fnDriveRuns", fn := fun _ => fun
  | [d1, d2] => { results := [.lit (.bool true)], args := [d1, d2] }
  | _ => none }
def fnDriveRunsRow : OpenClaim := { program := "ytmcfnkfcklcpnab", sum := "0056f5082f4b43a5f0de9941bf472c77a1fcf83d7da6b89cec0226415630a351", func := "loop.example/g01256/laws.FnDriveRuns", spec := "fnDriveRuns", inPlace := ["math.Float64bits", "math.Float64frombits", "math.Float32bits"], unfollowed := true, recurses := true, apart := false }
def FnDriveRunsSaid : Prop := fnDriveRunsRow.holds Try.pinned (OpenSpec.ofChange fnDriveRunsSpec)

/-- ITS FALSE NEIGHBOUR: 'it returns false'. Refute it at one input. -/
def fnDriveRunsWrong : ChangeSpec := { name := "fnDriveRuns", fn := fun _ => fun
  | [d1, d2] => { results := [.lit (.bool false)], args := [d1, d2] }
  | _ => none }
def FnDriveRunsWrongFalsely : Prop := fnDriveRunsRow.holds Try.pinned (OpenSpec.ofChange fnDriveRunsWrong)

/-- 'laws.FnYaws': WHATEVER THE INPUT: true; the input reads as it did. -/
def fnYawsSpec : ChangeSpec := { name := "fnYaws", fn := fun _ => fun
  | [d1, d2] => { results := [.lit (.bool true)], args := [d1, d2] }
  | _ => none }
def fnYawsRow : OpenClaim := { program := "ytmcfnkfcklcpnab", sum := "0056f5082f4b43a5f0de9941bf472c77a1fcf83d7da6b89cec0226415630a351", func := "loop.example/g01256/laws.FnYaws", spec := "fnYaws", inPlace := ["math.Float64bits", "math.Float64frombits", "math.archFloor", "math.archTrunc", "math.Float32bits"], unfollowed := true, recurses := true, apart := false }
def FnYawsSaid : Prop := fnYawsRow.holds Try.pinned (OpenSpec.ofChange fnYawsSpec)

/-- ITS FALSE NEIGHBOUR: 'it returns false'. Refute it at one input. -/
def fnYawsWrong : ChangeSpec := { name := "fnYaws", fn := fun _ => fun
  | [d1, d2] => { results := [.lit (.bool false)], args := [d1, d2] }
  | _ => none }
def FnYawsWrongFalsely : Prop := fnYawsRow.holds Try.pinned (OpenSpec.ofChange fnYawsWrong)

/- THE SECOND FORM. 'bulk': how many values and letters a reading holds, each counted each time it is reached (what is shared counts as often as it is met; a slice's spare places count too). A statement '..UptoSaid' is the law's where the arguments, and the package variables that the reading takes, are together of bulk at most 1048576: NARROWER than '..Said'. Prove '..Said' where nothing that the law and all that it calls make is longer than what came in: it says more and counts as full. Else prove '..UptoSaid'. A law counts once. -/
mutual
def uptoBulk {H : Type} : DataW H → Nat
  | .lit (.string bytes) => bytes.length + 1
  | .lit _ => 1
  | .nil => 1
  | .ptr d => uptoBulk d + 1
  | .slice elems spare => uptoBulkAll elems + uptoBulkAll spare + 1
  | .agg parts => uptoBulkAll parts + 1
  | .iface _ d => uptoBulk d + 1
  | .map entries => uptoBulkEntries entries + 1
  | .held _ => 1
def uptoBulkAll {H : Type} : List (DataW H) → Nat
  | [] => 0
  | d :: r => uptoBulk d + uptoBulkAll r
def uptoBulkEntries {H : Type} : List (Lit × DataW H) → Nat
  | [] => 0
  | x :: r => uptoBulkEntry x + uptoBulkEntries r
def uptoBulkEntry {H : Type} : Lit × DataW H → Nat
  | (.string bytes, d) => bytes.length + uptoBulk d + 1
  | (_, d) => uptoBulk d + 1
 end
def uptoSmall : (H : Type) → List (DataW H) → Bool := fun _ ds => decide (uptoBulkAll ds ≤ 1048576)
def OpenSpec.upto (s : _root_.Go.ChangeSpec) : _root_.Go.OpenSpec := { _root_.Go.OpenSpec.ofChange s with cond := some uptoSmall }

/-- 'laws.FnExactShareOfRated', WHERE WHAT IT READS IS OF BULK AT MOST 1048576: true; the input reads as it did. -/
def fnExactShareOfRatedUptoRow : OpenClaim := { program := "ytmcfnkfcklcpnab", sum := "0056f5082f4b43a5f0de9941bf472c77a1fcf83d7da6b89cec0226415630a351", func := "loop.example/g01256/laws.FnExactShareOfRated", spec := "fnExactShareOfRated", inPlace := ["math.Float64bits", "math.Float64frombits"], unfollowed := true, recurses := true, apart := false, narrowed := true }
def FnExactShareOfRatedUptoSaid : Prop := fnExactShareOfRatedUptoRow.holds Try.pinned (OpenSpec.upto fnExactShareOfRatedSpec)

/-- 'laws.FnExactStepDrive', WHERE WHAT IT READS IS OF BULK AT MOST 1048576: true; the input reads as it did. -/
def fnExactStepDriveUptoRow : OpenClaim := { program := "ytmcfnkfcklcpnab", sum := "0056f5082f4b43a5f0de9941bf472c77a1fcf83d7da6b89cec0226415630a351", func := "loop.example/g01256/laws.FnExactStepDrive", spec := "fnExactStepDrive", inPlace := ["math.Float64bits", "math.Float64frombits"], unfollowed := true, recurses := true, apart := false, narrowed := true }
def FnExactStepDriveUptoSaid : Prop := fnExactStepDriveUptoRow.holds Try.pinned (OpenSpec.upto fnExactStepDriveSpec)

/-- 'laws.FnExactRunDrive', WHERE WHAT IT READS IS OF BULK AT MOST 1048576: true; the input reads as it did. -/
def fnExactRunDriveUptoRow : OpenClaim := { program := "ytmcfnkfcklcpnab", sum := "0056f5082f4b43a5f0de9941bf472c77a1fcf83d7da6b89cec0226415630a351", func := "loop.example/g01256/laws.FnExactRunDrive", spec := "fnExactRunDrive", inPlace := ["math.Float64bits", "math.Float64frombits"], unfollowed := true, recurses := true, apart := false, narrowed := true }
def FnExactRunDriveUptoSaid : Prop := fnExactRunDriveUptoRow.holds Try.pinned (OpenSpec.upto fnExactRunDriveSpec)

/-- 'laws.FnExactCountStates', WHERE WHAT IT READS IS OF BULK AT MOST 1048576: true; the input reads as it did. -/
def fnExactCountStatesUptoRow : OpenClaim := { program := "ytmcfnkfcklcpnab", sum := "0056f5082f4b43a5f0de9941bf472c77a1fcf83d7da6b89cec0226415630a351", func := "loop.example/g01256/laws.FnExactCountStates", spec := "fnExactCountStates", apart := false, narrowed := true }
def FnExactCountStatesUptoSaid : Prop := fnExactCountStatesUptoRow.holds Try.pinned (OpenSpec.upto fnExactCountStatesSpec)

/-- 'laws.FnExactChangesIn', WHERE WHAT IT READS IS OF BULK AT MOST 1048576: true; the input reads as it did. -/
def fnExactChangesInUptoRow : OpenClaim := { program := "ytmcfnkfcklcpnab", sum := "0056f5082f4b43a5f0de9941bf472c77a1fcf83d7da6b89cec0226415630a351", func := "loop.example/g01256/laws.FnExactChangesIn", spec := "fnExactChangesIn", apart := false, narrowed := true }
def FnExactChangesInUptoSaid : Prop := fnExactChangesInUptoRow.holds Try.pinned (OpenSpec.upto fnExactChangesInSpec)

/-- 'laws.FnExactLongestIn', WHERE WHAT IT READS IS OF BULK AT MOST 1048576: true; the input reads as it did. -/
def fnExactLongestInUptoRow : OpenClaim := { program := "ytmcfnkfcklcpnab", sum := "0056f5082f4b43a5f0de9941bf472c77a1fcf83d7da6b89cec0226415630a351", func := "loop.example/g01256/laws.FnExactLongestIn", spec := "fnExactLongestIn", apart := false, narrowed := true }
def FnExactLongestInUptoSaid : Prop := fnExactLongestInUptoRow.holds Try.pinned (OpenSpec.upto fnExactLongestInSpec)

/-- 'laws.FnExactYawStep', WHERE WHAT IT READS IS OF BULK AT MOST 1048576: true; the input reads as it did. -/
def fnExactYawStepUptoRow : OpenClaim := { program := "ytmcfnkfcklcpnab", sum := "0056f5082f4b43a5f0de9941bf472c77a1fcf83d7da6b89cec0226415630a351", func := "loop.example/g01256/laws.FnExactYawStep", spec := "fnExactYawStep", inPlace := ["math.archFloor", "math.Float64bits", "math.Float64frombits", "math.archTrunc"], apart := false, narrowed := true }
def FnExactYawStepUptoSaid : Prop := fnExactYawStepUptoRow.holds Try.pinned (OpenSpec.upto fnExactYawStepSpec)

/-- 'laws.FnExactRunYaw', WHERE WHAT IT READS IS OF BULK AT MOST 1048576: true; the input reads as it did. -/
def fnExactRunYawUptoRow : OpenClaim := { program := "ytmcfnkfcklcpnab", sum := "0056f5082f4b43a5f0de9941bf472c77a1fcf83d7da6b89cec0226415630a351", func := "loop.example/g01256/laws.FnExactRunYaw", spec := "fnExactRunYaw", inPlace := ["math.archFloor", "math.Float64bits", "math.Float64frombits", "math.archTrunc"], unfollowed := true, recurses := true, apart := false, narrowed := true }
def FnExactRunYawUptoSaid : Prop := fnExactRunYawUptoRow.holds Try.pinned (OpenSpec.upto fnExactRunYawSpec)

/-- 'laws.FnExactTurnedBy', WHERE WHAT IT READS IS OF BULK AT MOST 1048576: true; the input reads as it did. -/
def fnExactTurnedByUptoRow : OpenClaim := { program := "ytmcfnkfcklcpnab", sum := "0056f5082f4b43a5f0de9941bf472c77a1fcf83d7da6b89cec0226415630a351", func := "loop.example/g01256/laws.FnExactTurnedBy", spec := "fnExactTurnedBy", inPlace := ["math.archFloor", "math.Float64bits", "math.Float64frombits", "math.archTrunc"], unfollowed := true, recurses := true, apart := false, narrowed := true }
def FnExactTurnedByUptoSaid : Prop := fnExactTurnedByUptoRow.holds Try.pinned (OpenSpec.upto fnExactTurnedBySpec)

/-- 'laws.FnRules', WHERE WHAT IT READS IS OF BULK AT MOST 1048576: true; the input reads as it did. -/
def fnRulesUptoRow : OpenClaim := { program := "ytmcfnkfcklcpnab", sum := "0056f5082f4b43a5f0de9941bf472c77a1fcf83d7da6b89cec0226415630a351", func := "loop.example/g01256/laws.FnRules", spec := "fnRules", inPlace := ["math.Float64bits", "math.Float64frombits", "math.Float32bits"], unfollowed := true, recurses := true, apart := false, narrowed := true }
def FnRulesUptoSaid : Prop := fnRulesUptoRow.holds Try.pinned (OpenSpec.upto fnRulesSpec)

/-- 'laws.FnDriveRuns', WHERE WHAT IT READS IS OF BULK AT MOST 1048576: true; the input reads as it did. -/
def fnDriveRunsUptoRow : OpenClaim := { program := "ytmcfnkfcklcpnab", sum := "0056f5082f4b43a5f0de9941bf472c77a1fcf83d7da6b89cec0226415630a351", func := "loop.example/g01256/laws.FnDriveRuns", spec := "fnDriveRuns", inPlace := ["math.Float64bits", "math.Float64frombits", "math.Float32bits"], unfollowed := true, recurses := true, apart := false, narrowed := true }
def FnDriveRunsUptoSaid : Prop := fnDriveRunsUptoRow.holds Try.pinned (OpenSpec.upto fnDriveRunsSpec)

/-- 'laws.FnYaws', WHERE WHAT IT READS IS OF BULK AT MOST 1048576: true; the input reads as it did. -/
def fnYawsUptoRow : OpenClaim := { program := "ytmcfnkfcklcpnab", sum := "0056f5082f4b43a5f0de9941bf472c77a1fcf83d7da6b89cec0226415630a351", func := "loop.example/g01256/laws.FnYaws", spec := "fnYaws", inPlace := ["math.Float64bits", "math.Float64frombits", "math.archFloor", "math.archTrunc", "math.Float32bits"], unfollowed := true, recurses := true, apart := false, narrowed := true }
def FnYawsUptoSaid : Prop := fnYawsUptoRow.holds Try.pinned (OpenSpec.upto fnYawsSpec)

end Rows
end Go.Proofs.Ytmcfnkfcklcpnab
