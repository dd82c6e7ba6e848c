/-
  No cell of these rows narrows 'for every input' (looked for: loops, veiled, ifaces, maps, wideKeys, modest, calm, conditions, laid).
  DERIVED. THE GIVEN ROWS OF THIS SEAT. 12 by the template 'for every input the law returns true; each argument reads behind the call as it read before'; 0 by the template 'total and deterministic' (their statements: YtmcfnkfcklcpnaaTotals.lean).
  GIVEN WITH THE SEED: the statements are not yours to turn. If you find one false, say at which input.
  Laid BY PROGRAM, IN A SANDBOX (cutbox-rows.mjs): the forced cells as the released guide's own fill.sh prints them over the translation 715d443fabbbd03e… (all of the seat's roots in one cut). By AI agents, Wed Nov 11 2026. No macro, syntax, notation, axiom, sorry.
-/
import Derived.Test.YtmcfnkfcklcpnaaChecked
import GoSem.Claim
import GoSem.ClaimJoined
import GoSem.ClaimMapViews
import Derived.JoinedTies
import Derived.KernelRfl
namespace Go.Proofs.Ytmcfnkfcklcpnaa
/- THE CELL 'sum', in the pinned program and in every row, IS THE sha256 OF THE DUMP (.gsa) THAT YtmcfnkfcklcpnaaProg.lean LOADS. Nothing in Lean hashes anything: it is a label: what it is worth is what the hold of that sum in a sandbox is worth. -/
noncomputable def Try.pinned : Pinned := { name := "ytmcfnkfcklcpnaa", sum := "715d443fabbbd03e746b4fbd9746692a770f8342e2049014c07f0ce37f093022", checked := Try.checked }
namespace Rows
def none {H : Type} : Left H := { results := [], args := [] }

/-- 'laws.FnExactValidPlant': WHATEVER THE INPUT: true; the input reads as it did. -/
def fnExactValidPlantSpec : ChangeSpec := { name := "fnExactValidPlant", fn := fun _ => fun
  | [d] => { results := [.lit (.bool true)], args := [d] }
  | _ => none }
def fnExactValidPlantRow : OpenClaim := { program := "ytmcfnkfcklcpnaa", sum := "715d443fabbbd03e746b4fbd9746692a770f8342e2049014c07f0ce37f093022", func := "loop.example/g01256/laws.FnExactValidPlant", spec := "fnExactValidPlant", inPlace := ["math.Float64bits", "math.Float64frombits"], unfollowed := true, recurses := true, apart := false }
def FnExactValidPlantSaid : Prop := fnExactValidPlantRow.holds Try.pinned (OpenSpec.ofChange fnExactValidPlantSpec)

/-- ITS FALSE NEIGHBOUR: 'it returns false'. Refute it at one input. -/
def fnExactValidPlantWrong : ChangeSpec := { name := "fnExactValidPlant", fn := fun _ => fun
  | [d] => { results := [.lit (.bool false)], args := [d] }
  | _ => none }
def FnExactValidPlantWrongFalsely : Prop := fnExactValidPlantRow.holds Try.pinned (OpenSpec.ofChange fnExactValidPlantWrong)

/-- 'laws.FnExactSamePlant': WHATEVER THE INPUT: true; the input reads as it did. -/
def fnExactSamePlantSpec : ChangeSpec := { name := "fnExactSamePlant", fn := fun _ => fun
  | [d1, d2] => { results := [.lit (.bool true)], args := [d1, d2] }
  | _ => none }
def fnExactSamePlantRow : OpenClaim := { program := "ytmcfnkfcklcpnaa", sum := "715d443fabbbd03e746b4fbd9746692a770f8342e2049014c07f0ce37f093022", func := "loop.example/g01256/laws.FnExactSamePlant", spec := "fnExactSamePlant", inPlace := ["math.Float32bits"], unfollowed := true, recurses := true, apart := false }
def FnExactSamePlantSaid : Prop := fnExactSamePlantRow.holds Try.pinned (OpenSpec.ofChange fnExactSamePlantSpec)

/-- ITS FALSE NEIGHBOUR: 'it returns false'. Refute it at one input. -/
def fnExactSamePlantWrong : ChangeSpec := { name := "fnExactSamePlant", fn := fun _ => fun
  | [d1, d2] => { results := [.lit (.bool false)], args := [d1, d2] }
  | _ => none }
def FnExactSamePlantWrongFalsely : Prop := fnExactSamePlantRow.holds Try.pinned (OpenSpec.ofChange fnExactSamePlantWrong)

/-- 'laws.FnExactValidDrive': WHATEVER THE INPUT: true; the input reads as it did. -/
def fnExactValidDriveSpec : ChangeSpec := { name := "fnExactValidDrive", fn := fun _ => fun
  | [d] => { results := [.lit (.bool true)], args := [d] }
  | _ => none }
def fnExactValidDriveRow : OpenClaim := { program := "ytmcfnkfcklcpnaa", sum := "715d443fabbbd03e746b4fbd9746692a770f8342e2049014c07f0ce37f093022", func := "loop.example/g01256/laws.FnExactValidDrive", spec := "fnExactValidDrive", inPlace := ["math.Float64bits", "math.Float64frombits"], unfollowed := true, recurses := true, apart := false }
def FnExactValidDriveSaid : Prop := fnExactValidDriveRow.holds Try.pinned (OpenSpec.ofChange fnExactValidDriveSpec)

/-- ITS FALSE NEIGHBOUR: 'it returns false'. Refute it at one input. -/
def fnExactValidDriveWrong : ChangeSpec := { name := "fnExactValidDrive", fn := fun _ => fun
  | [d] => { results := [.lit (.bool false)], args := [d] }
  | _ => none }
def FnExactValidDriveWrongFalsely : Prop := fnExactValidDriveRow.holds Try.pinned (OpenSpec.ofChange fnExactValidDriveWrong)

/-- 'laws.FnExactSameDrive': WHATEVER THE INPUT: true; the input reads as it did. -/
def fnExactSameDriveSpec : ChangeSpec := { name := "fnExactSameDrive", fn := fun _ => fun
  | [d1, d2] => { results := [.lit (.bool true)], args := [d1, d2] }
  | _ => none }
def fnExactSameDriveRow : OpenClaim := { program := "ytmcfnkfcklcpnaa", sum := "715d443fabbbd03e746b4fbd9746692a770f8342e2049014c07f0ce37f093022", func := "loop.example/g01256/laws.FnExactSameDrive", spec := "fnExactSameDrive", inPlace := ["math.Float32bits"], unfollowed := true, recurses := true, apart := false }
def FnExactSameDriveSaid : Prop := fnExactSameDriveRow.holds Try.pinned (OpenSpec.ofChange fnExactSameDriveSpec)

/-- ITS FALSE NEIGHBOUR: 'it returns false'. Refute it at one input. -/
def fnExactSameDriveWrong : ChangeSpec := { name := "fnExactSameDrive", fn := fun _ => fun
  | [d1, d2] => { results := [.lit (.bool false)], args := [d1, d2] }
  | _ => none }
def FnExactSameDriveWrongFalsely : Prop := fnExactSameDriveRow.holds Try.pinned (OpenSpec.ofChange fnExactSameDriveWrong)

/-- 'laws.FnExactNewDrive': WHATEVER THE INPUT: true; the input reads as it did. -/
def fnExactNewDriveSpec : ChangeSpec := { name := "fnExactNewDrive", fn := fun _ => fun
  | [d] => { results := [.lit (.bool true)], args := [d] }
  | _ => none }
def fnExactNewDriveRow : OpenClaim := { program := "ytmcfnkfcklcpnaa", sum := "715d443fabbbd03e746b4fbd9746692a770f8342e2049014c07f0ce37f093022", func := "loop.example/g01256/laws.FnExactNewDrive", spec := "fnExactNewDrive", inPlace := ["math.Float64bits", "math.Float64frombits"], unfollowed := true, recurses := true, apart := false }
def FnExactNewDriveSaid : Prop := fnExactNewDriveRow.holds Try.pinned (OpenSpec.ofChange fnExactNewDriveSpec)

/-- ITS FALSE NEIGHBOUR: 'it returns false'. Refute it at one input. -/
def fnExactNewDriveWrong : ChangeSpec := { name := "fnExactNewDrive", fn := fun _ => fun
  | [d] => { results := [.lit (.bool false)], args := [d] }
  | _ => none }
def FnExactNewDriveWrongFalsely : Prop := fnExactNewDriveRow.holds Try.pinned (OpenSpec.ofChange fnExactNewDriveWrong)

/-- 'laws.FnExactHoldDrive': WHATEVER THE INPUT: true; the input reads as it did. -/
def fnExactHoldDriveSpec : ChangeSpec := { name := "fnExactHoldDrive", fn := fun _ => fun
  | [d] => { results := [.lit (.bool true)], args := [d] }
  | _ => none }
def fnExactHoldDriveRow : OpenClaim := { program := "ytmcfnkfcklcpnaa", sum := "715d443fabbbd03e746b4fbd9746692a770f8342e2049014c07f0ce37f093022", func := "loop.example/g01256/laws.FnExactHoldDrive", spec := "fnExactHoldDrive", inPlace := ["math.Float64bits", "math.Float64frombits"], unfollowed := true, recurses := true, apart := false }
def FnExactHoldDriveSaid : Prop := fnExactHoldDriveRow.holds Try.pinned (OpenSpec.ofChange fnExactHoldDriveSpec)

/-- ITS FALSE NEIGHBOUR: 'it returns false'. Refute it at one input. -/
def fnExactHoldDriveWrong : ChangeSpec := { name := "fnExactHoldDrive", fn := fun _ => fun
  | [d] => { results := [.lit (.bool false)], args := [d] }
  | _ => none }
def FnExactHoldDriveWrongFalsely : Prop := fnExactHoldDriveRow.holds Try.pinned (OpenSpec.ofChange fnExactHoldDriveWrong)

/-- 'laws.FnExactReleaseDrive': WHATEVER THE INPUT: true; the input reads as it did. -/
def fnExactReleaseDriveSpec : ChangeSpec := { name := "fnExactReleaseDrive", fn := fun _ => fun
  | [d] => { results := [.lit (.bool true)], args := [d] }
  | _ => none }
def fnExactReleaseDriveRow : OpenClaim := { program := "ytmcfnkfcklcpnaa", sum := "715d443fabbbd03e746b4fbd9746692a770f8342e2049014c07f0ce37f093022", func := "loop.example/g01256/laws.FnExactReleaseDrive", spec := "fnExactReleaseDrive", inPlace := ["math.Float64bits", "math.Float64frombits"], unfollowed := true, recurses := true, apart := false }
def FnExactReleaseDriveSaid : Prop := fnExactReleaseDriveRow.holds Try.pinned (OpenSpec.ofChange fnExactReleaseDriveSpec)

/-- ITS FALSE NEIGHBOUR: 'it returns false'. Refute it at one input. -/
def fnExactReleaseDriveWrong : ChangeSpec := { name := "fnExactReleaseDrive", fn := fun _ => fun
  | [d] => { results := [.lit (.bool false)], args := [d] }
  | _ => none }
def FnExactReleaseDriveWrongFalsely : Prop := fnExactReleaseDriveRow.holds Try.pinned (OpenSpec.ofChange fnExactReleaseDriveWrong)

/-- 'laws.FnExactNextState': WHATEVER THE INPUT: true; the input reads as it did. -/
def fnExactNextStateSpec : ChangeSpec := { name := "fnExactNextState", fn := fun _ => fun
  | [d1, d2] => { results := [.lit (.bool true)], args := [d1, d2] }
  | _ => none }
def fnExactNextStateRow : OpenClaim := { program := "ytmcfnkfcklcpnaa", sum := "715d443fabbbd03e746b4fbd9746692a770f8342e2049014c07f0ce37f093022", func := "loop.example/g01256/laws.FnExactNextState", spec := "fnExactNextState", inPlace := ["math.Float64bits", "math.Float64frombits"], unfollowed := true, recurses := true, apart := false }
def FnExactNextStateSaid : Prop := fnExactNextStateRow.holds Try.pinned (OpenSpec.ofChange fnExactNextStateSpec)

/-- ITS FALSE NEIGHBOUR: 'it returns false'. Refute it at one input. -/
def fnExactNextStateWrong : ChangeSpec := { name := "fnExactNextState", fn := fun _ => fun
  | [d1, d2] => { results := [.lit (.bool false)], args := [d1, d2] }
  | _ => none }
def FnExactNextStateWrongFalsely : Prop := fnExactNextStateRow.holds Try.pinned (OpenSpec.ofChange fnExactNextStateWrong)

/-- 'laws.FnExactNextPitch': WHATEVER THE INPUT: true; the input reads as it did. -/
def fnExactNextPitchSpec : ChangeSpec := { name := "fnExactNextPitch", fn := fun _ => fun
  | [d1, d2] => { results := [.lit (.bool true)], args := [d1, d2] }
  | _ => none }
def fnExactNextPitchRow : OpenClaim := { program := "ytmcfnkfcklcpnaa", sum := "715d443fabbbd03e746b4fbd9746692a770f8342e2049014c07f0ce37f093022", func := "loop.example/g01256/laws.FnExactNextPitch", spec := "fnExactNextPitch", inPlace := ["math.Float64bits", "math.Float64frombits"], unfollowed := true, recurses := true, apart := false }
def FnExactNextPitchSaid : Prop := fnExactNextPitchRow.holds Try.pinned (OpenSpec.ofChange fnExactNextPitchSpec)

/-- ITS FALSE NEIGHBOUR: 'it returns false'. Refute it at one input. -/
def fnExactNextPitchWrong : ChangeSpec := { name := "fnExactNextPitch", fn := fun _ => fun
  | [d1, d2] => { results := [.lit (.bool false)], args := [d1, d2] }
  | _ => none }
def FnExactNextPitchWrongFalsely : Prop := fnExactNextPitchRow.holds Try.pinned (OpenSpec.ofChange fnExactNextPitchWrong)

/-- 'laws.FnExactGridTorque': WHATEVER THE INPUT: true; the input reads as it did. -/
def fnExactGridTorqueSpec : ChangeSpec := { name := "fnExactGridTorque", fn := fun _ => fun
  | [d] => { results := [.lit (.bool true)], args := [d] }
  | _ => none }
def fnExactGridTorqueRow : OpenClaim := { program := "ytmcfnkfcklcpnaa", sum := "715d443fabbbd03e746b4fbd9746692a770f8342e2049014c07f0ce37f093022", func := "loop.example/g01256/laws.FnExactGridTorque", spec := "fnExactGridTorque", inPlace := ["math.Float64bits", "math.Float64frombits"], unfollowed := true, recurses := true, apart := false }
def FnExactGridTorqueSaid : Prop := fnExactGridTorqueRow.holds Try.pinned (OpenSpec.ofChange fnExactGridTorqueSpec)

/-- ITS FALSE NEIGHBOUR: 'it returns false'. Refute it at one input. -/
def fnExactGridTorqueWrong : ChangeSpec := { name := "fnExactGridTorque", fn := fun _ => fun
  | [d] => { results := [.lit (.bool false)], args := [d] }
  | _ => none }
def FnExactGridTorqueWrongFalsely : Prop := fnExactGridTorqueRow.holds Try.pinned (OpenSpec.ofChange fnExactGridTorqueWrong)

/-- 'laws.FnExactDrivePower': WHATEVER THE INPUT: true; the input reads as it did. -/
def fnExactDrivePowerSpec : ChangeSpec := { name := "fnExactDrivePower", fn := fun _ => fun
  | [d] => { results := [.lit (.bool true)], args := [d] }
  | _ => none }
def fnExactDrivePowerRow : OpenClaim := { program := "ytmcfnkfcklcpnaa", sum := "715d443fabbbd03e746b4fbd9746692a770f8342e2049014c07f0ce37f093022", func := "loop.example/g01256/laws.FnExactDrivePower", spec := "fnExactDrivePower", inPlace := ["math.Float64bits", "math.Float64frombits"], unfollowed := true, recurses := true, apart := false }
def FnExactDrivePowerSaid : Prop := fnExactDrivePowerRow.holds Try.pinned (OpenSpec.ofChange fnExactDrivePowerSpec)

/-- ITS FALSE NEIGHBOUR: 'it returns false'. Refute it at one input. -/
def fnExactDrivePowerWrong : ChangeSpec := { name := "fnExactDrivePower", fn := fun _ => fun
  | [d] => { results := [.lit (.bool false)], args := [d] }
  | _ => none }
def FnExactDrivePowerWrongFalsely : Prop := fnExactDrivePowerRow.holds Try.pinned (OpenSpec.ofChange fnExactDrivePowerWrong)

/-- 'laws.FnExactNetTorque': WHATEVER THE INPUT: true; the input reads as it did. -/
def fnExactNetTorqueSpec : ChangeSpec := { name := "fnExactNetTorque", fn := fun _ => fun
  | [d1, d2] => { results := [.lit (.bool true)], args := [d1, d2] }
  | _ => none }
def fnExactNetTorqueRow : OpenClaim := { program := "ytmcfnkfcklcpnaa", sum := "715d443fabbbd03e746b4fbd9746692a770f8342e2049014c07f0ce37f093022", func := "loop.example/g01256/laws.FnExactNetTorque", spec := "fnExactNetTorque", inPlace := ["math.Float64bits", "math.Float64frombits"], unfollowed := true, recurses := true, apart := false }
def FnExactNetTorqueSaid : Prop := fnExactNetTorqueRow.holds Try.pinned (OpenSpec.ofChange fnExactNetTorqueSpec)

/-- ITS FALSE NEIGHBOUR: 'it returns false'. Refute it at one input. -/
def fnExactNetTorqueWrong : ChangeSpec := { name := "fnExactNetTorque", fn := fun _ => fun
  | [d1, d2] => { results := [.lit (.bool false)], args := [d1, d2] }
  | _ => none }
def FnExactNetTorqueWrongFalsely : Prop := fnExactNetTorqueRow.holds Try.pinned (OpenSpec.ofChange fnExactNetTorqueWrong)

/- THE SECOND FORM. 'bulk': how many values and letters a reading holds, each counted each time it is reached (what is shared counts as often as it is met; a slice's spare places count too). A statement '..UptoSaid' is the law's where the arguments, and the package variables that the reading takes, are together of bulk at most 1048576: NARROWER than '..Said'. Prove '..Said' where nothing that the law and all that it calls make is longer than what came in: it says more and counts as full. Else prove '..UptoSaid'. A law counts once. -/
mutual
def uptoBulk {H : Type} : DataW H → Nat
  | .lit (.string bytes) => bytes.length + 1
  | .lit _ => 1
  | .nil => 1
  | .ptr d => uptoBulk d + 1
  | .slice elems spare => uptoBulkAll elems + uptoBulkAll spare + 1
  | .agg parts => uptoBulkAll parts + 1
  | .iface _ d => uptoBulk d + 1
  | .map entries => uptoBulkEntries entries + 1
  | .held _ => 1
def uptoBulkAll {H : Type} : List (DataW H) → Nat
  | [] => 0
  | d :: r => uptoBulk d + uptoBulkAll r
def uptoBulkEntries {H : Type} : List (Lit × DataW H) → Nat
  | [] => 0
  | x :: r => uptoBulkEntry x + uptoBulkEntries r
def uptoBulkEntry {H : Type} : Lit × DataW H → Nat
  | (.string bytes, d) => bytes.length + uptoBulk d + 1
  | (_, d) => uptoBulk d + 1
 end
def uptoSmall : (H : Type) → List (DataW H) → Bool := fun _ ds => decide (uptoBulkAll ds ≤ 1048576)
def OpenSpec.upto (s : _root_.Go.ChangeSpec) : _root_.Go.OpenSpec := { _root_.Go.OpenSpec.ofChange s with cond := some uptoSmall }

/-- 'laws.FnExactValidPlant', WHERE WHAT IT READS IS OF BULK AT MOST 1048576: true; the input reads as it did. -/
def fnExactValidPlantUptoRow : OpenClaim := { program := "ytmcfnkfcklcpnaa", sum := "715d443fabbbd03e746b4fbd9746692a770f8342e2049014c07f0ce37f093022", func := "loop.example/g01256/laws.FnExactValidPlant", spec := "fnExactValidPlant", inPlace := ["math.Float64bits", "math.Float64frombits"], unfollowed := true, recurses := true, apart := false, narrowed := true }
def FnExactValidPlantUptoSaid : Prop := fnExactValidPlantUptoRow.holds Try.pinned (OpenSpec.upto fnExactValidPlantSpec)

/-- 'laws.FnExactSamePlant', WHERE WHAT IT READS IS OF BULK AT MOST 1048576: true; the input reads as it did. -/
def fnExactSamePlantUptoRow : OpenClaim := { program := "ytmcfnkfcklcpnaa", sum := "715d443fabbbd03e746b4fbd9746692a770f8342e2049014c07f0ce37f093022", func := "loop.example/g01256/laws.FnExactSamePlant", spec := "fnExactSamePlant", inPlace := ["math.Float32bits"], unfollowed := true, recurses := true, apart := false, narrowed := true }
def FnExactSamePlantUptoSaid : Prop := fnExactSamePlantUptoRow.holds Try.pinned (OpenSpec.upto fnExactSamePlantSpec)

/-- 'laws.FnExactValidDrive', WHERE WHAT IT READS IS OF BULK AT MOST 1048576: true; the input reads as it did. -/
def fnExactValidDriveUptoRow : OpenClaim := { program := "ytmcfnkfcklcpnaa", sum := "715d443fabbbd03e746b4fbd9746692a770f8342e2049014c07f0ce37f093022", func := "loop.example/g01256/laws.FnExactValidDrive", spec := "fnExactValidDrive", inPlace := ["math.Float64bits", "math.Float64frombits"], unfollowed := true, recurses := true, apart := false, narrowed := true }
def FnExactValidDriveUptoSaid : Prop := fnExactValidDriveUptoRow.holds Try.pinned (OpenSpec.upto fnExactValidDriveSpec)

/-- 'laws.FnExactSameDrive', WHERE WHAT IT READS IS OF BULK AT MOST 1048576: true; the input reads as it did. -/
def fnExactSameDriveUptoRow : OpenClaim := { program := "ytmcfnkfcklcpnaa", sum := "715d443fabbbd03e746b4fbd9746692a770f8342e2049014c07f0ce37f093022", func := "loop.example/g01256/laws.FnExactSameDrive", spec := "fnExactSameDrive", inPlace := ["math.Float32bits"], unfollowed := true, recurses := true, apart := false, narrowed := true }
def FnExactSameDriveUptoSaid : Prop := fnExactSameDriveUptoRow.holds Try.pinned (OpenSpec.upto fnExactSameDriveSpec)

/-- 'laws.FnExactNewDrive', WHERE WHAT IT READS IS OF BULK AT MOST 1048576: true; the input reads as it did. -/
def fnExactNewDriveUptoRow : OpenClaim := { program := "ytmcfnkfcklcpnaa", sum := "715d443fabbbd03e746b4fbd9746692a770f8342e2049014c07f0ce37f093022", func := "loop.example/g01256/laws.FnExactNewDrive", spec := "fnExactNewDrive", inPlace := ["math.Float64bits", "math.Float64frombits"], unfollowed := true, recurses := true, apart := false, narrowed := true }
def FnExactNewDriveUptoSaid : Prop := fnExactNewDriveUptoRow.holds Try.pinned (OpenSpec.upto fnExactNewDriveSpec)

/-- 'laws.FnExactHoldDrive', WHERE WHAT IT READS IS OF BULK AT MOST 1048576: true; the input reads as it did. -/
def fnExactHoldDriveUptoRow : OpenClaim := { program := "ytmcfnkfcklcpnaa", sum := "715d443fabbbd03e746b4fbd9746692a770f8342e2049014c07f0ce37f093022", func := "loop.example/g01256/laws.FnExactHoldDrive", spec := "fnExactHoldDrive", inPlace := ["math.Float64bits", "math.Float64frombits"], unfollowed := true, recurses := true, apart := false, narrowed := true }
def FnExactHoldDriveUptoSaid : Prop := fnExactHoldDriveUptoRow.holds Try.pinned (OpenSpec.upto fnExactHoldDriveSpec)

/-- 'laws.FnExactReleaseDrive', WHERE WHAT IT READS IS OF BULK AT MOST 1048576: true; the input reads as it did. -/
def fnExactReleaseDriveUptoRow : OpenClaim := { program := "ytmcfnkfcklcpnaa", sum := "715d443fabbbd03e746b4fbd9746692a770f8342e2049014c07f0ce37f093022", func := "loop.example/g01256/laws.FnExactReleaseDrive", spec := "fnExactReleaseDrive", inPlace := ["math.Float64bits", "math.Float64frombits"], unfollowed := true, recurses := true, apart := false, narrowed := true }
def FnExactReleaseDriveUptoSaid : Prop := fnExactReleaseDriveUptoRow.holds Try.pinned (OpenSpec.upto fnExactReleaseDriveSpec)

/-- 'laws.FnExactNextState', WHERE WHAT IT READS IS OF BULK AT MOST 1048576: true; the input reads as it did. -/
def fnExactNextStateUptoRow : OpenClaim := { program := "ytmcfnkfcklcpnaa", sum := "715d443fabbbd03e746b4fbd9746692a770f8342e2049014c07f0ce37f093022", func := "loop.example/g01256/laws.FnExactNextState", spec := "fnExactNextState", inPlace := ["math.Float64bits", "math.Float64frombits"], unfollowed := true, recurses := true, apart := false, narrowed := true }
def FnExactNextStateUptoSaid : Prop := fnExactNextStateUptoRow.holds Try.pinned (OpenSpec.upto fnExactNextStateSpec)

/-- 'laws.FnExactNextPitch', WHERE WHAT IT READS IS OF BULK AT MOST 1048576: true; the input reads as it did. -/
def fnExactNextPitchUptoRow : OpenClaim := { program := "ytmcfnkfcklcpnaa", sum := "715d443fabbbd03e746b4fbd9746692a770f8342e2049014c07f0ce37f093022", func := "loop.example/g01256/laws.FnExactNextPitch", spec := "fnExactNextPitch", inPlace := ["math.Float64bits", "math.Float64frombits"], unfollowed := true, recurses := true, apart := false, narrowed := true }
def FnExactNextPitchUptoSaid : Prop := fnExactNextPitchUptoRow.holds Try.pinned (OpenSpec.upto fnExactNextPitchSpec)

/-- 'laws.FnExactGridTorque', WHERE WHAT IT READS IS OF BULK AT MOST 1048576: true; the input reads as it did. -/
def fnExactGridTorqueUptoRow : OpenClaim := { program := "ytmcfnkfcklcpnaa", sum := "715d443fabbbd03e746b4fbd9746692a770f8342e2049014c07f0ce37f093022", func := "loop.example/g01256/laws.FnExactGridTorque", spec := "fnExactGridTorque", inPlace := ["math.Float64bits", "math.Float64frombits"], unfollowed := true, recurses := true, apart := false, narrowed := true }
def FnExactGridTorqueUptoSaid : Prop := fnExactGridTorqueUptoRow.holds Try.pinned (OpenSpec.upto fnExactGridTorqueSpec)

/-- 'laws.FnExactDrivePower', WHERE WHAT IT READS IS OF BULK AT MOST 1048576: true; the input reads as it did. -/
def fnExactDrivePowerUptoRow : OpenClaim := { program := "ytmcfnkfcklcpnaa", sum := "715d443fabbbd03e746b4fbd9746692a770f8342e2049014c07f0ce37f093022", func := "loop.example/g01256/laws.FnExactDrivePower", spec := "fnExactDrivePower", inPlace := ["math.Float64bits", "math.Float64frombits"], unfollowed := true, recurses := true, apart := false, narrowed := true }
def FnExactDrivePowerUptoSaid : Prop := fnExactDrivePowerUptoRow.holds Try.pinned (OpenSpec.upto fnExactDrivePowerSpec)

/-- 'laws.FnExactNetTorque', WHERE WHAT IT READS IS OF BULK AT MOST 1048576: true; the input reads as it did. -/
def fnExactNetTorqueUptoRow : OpenClaim := { program := "ytmcfnkfcklcpnaa", sum := "715d443fabbbd03e746b4fbd9746692a770f8342e2049014c07f0ce37f093022", func := "loop.example/g01256/laws.FnExactNetTorque", spec := "fnExactNetTorque", inPlace := ["math.Float64bits", "math.Float64frombits"], unfollowed := true, recurses := true, apart := false, narrowed := true }
def FnExactNetTorqueUptoSaid : Prop := fnExactNetTorqueUptoRow.holds Try.pinned (OpenSpec.upto fnExactNetTorqueSpec)

end Rows
end Go.Proofs.Ytmcfnkfcklcpnaa
