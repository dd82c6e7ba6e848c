/-
  No cell of these rows narrows 'for every input' (looked for: loops, veiled, ifaces, maps, wideKeys, modest, calm, conditions, laid).
  DERIVED. THE GIVEN ROWS OF THIS SEAT. 12 by the template 'for every input the law returns true; each argument reads behind the call as it read before'; 0 by the template 'total and deterministic' (their statements: YtiiiigldpbomkaaTotals.lean).
  GIVEN WITH THE SEED: the statements are not yours to turn. If you find one false, say at which input.
  Laid BY PROGRAM, IN A SANDBOX (cutbox-rows.mjs): the forced cells as the released guide's own fill.sh prints them over the translation 45cb8d77e6f31998… (all of the seat's roots in one cut). By AI agents, Wed Nov 11 2026. No macro, syntax, notation, axiom, sorry.
-/
import Derived.Test.YtiiiigldpbomkaaChecked
import GoSem.Claim
import GoSem.ClaimJoined
import GoSem.ClaimMapViews
import Derived.JoinedTies
import Derived.KernelRfl
namespace Go.Proofs.Ytiiiigldpbomkaa
/- THE CELL 'sum', in the pinned program and in every row, IS THE sha256 OF THE DUMP (.gsa) THAT YtiiiigldpbomkaaProg.lean LOADS. Nothing in Lean hashes anything: it is a label: what it is worth is what the hold of that sum in a sandbox is worth. -/
noncomputable def Try.pinned : Pinned := { name := "ytiiiigldpbomkaa", sum := "45cb8d77e6f3199840893c83155aa10dd1d9e70b56e0008e155ff9fd5b50f8b3", checked := Try.checked }
namespace Rows
def none {H : Type} : Left H := { results := [], args := [] }

/-- 'laws.FnExactEvenRotor': WHATEVER THE INPUT: true; the input reads as it did. -/
def fnExactEvenRotorSpec : ChangeSpec := { name := "fnExactEvenRotor", fn := fun _ => fun
  | [d1, d2, d3, d4, d5, d6, d7] => { results := [.lit (.bool true)], args := [d1, d2, d3, d4, d5, d6, d7] }
  | _ => none }
def fnExactEvenRotorRow : OpenClaim := { program := "ytiiiigldpbomkaa", sum := "45cb8d77e6f3199840893c83155aa10dd1d9e70b56e0008e155ff9fd5b50f8b3", func := "loop.example/g01256/laws.FnExactEvenRotor", spec := "fnExactEvenRotor", inPlace := ["math.Float64bits", "math.Float64frombits"], unfollowed := true, recurses := true, apart := false }
def FnExactEvenRotorSaid : Prop := fnExactEvenRotorRow.holds Try.pinned (OpenSpec.ofChange fnExactEvenRotorSpec)

/-- ITS FALSE NEIGHBOUR: 'it returns false'. Refute it at one input. -/
def fnExactEvenRotorWrong : ChangeSpec := { name := "fnExactEvenRotor", fn := fun _ => fun
  | [d1, d2, d3, d4, d5, d6, d7] => { results := [.lit (.bool false)], args := [d1, d2, d3, d4, d5, d6, d7] }
  | _ => none }
def FnExactEvenRotorWrongFalsely : Prop := fnExactEvenRotorRow.holds Try.pinned (OpenSpec.ofChange fnExactEvenRotorWrong)

/-- 'laws.FnExactSetStation': WHATEVER THE INPUT: true; the input reads as it did. -/
def fnExactSetStationSpec : ChangeSpec := { name := "fnExactSetStation", fn := fun _ => fun
  | [d1, d2, d3] => { results := [.lit (.bool true)], args := [d1, d2, d3] }
  | _ => none }
def fnExactSetStationRow : OpenClaim := { program := "ytiiiigldpbomkaa", sum := "45cb8d77e6f3199840893c83155aa10dd1d9e70b56e0008e155ff9fd5b50f8b3", func := "loop.example/g01256/laws.FnExactSetStation", spec := "fnExactSetStation", inPlace := ["math.Float64bits", "math.Float64frombits"], unfollowed := true, recurses := true, apart := false }
def FnExactSetStationSaid : Prop := fnExactSetStationRow.holds Try.pinned (OpenSpec.ofChange fnExactSetStationSpec)

/-- ITS FALSE NEIGHBOUR: 'it returns false'. Refute it at one input. -/
def fnExactSetStationWrong : ChangeSpec := { name := "fnExactSetStation", fn := fun _ => fun
  | [d1, d2, d3] => { results := [.lit (.bool false)], args := [d1, d2, d3] }
  | _ => none }
def FnExactSetStationWrongFalsely : Prop := fnExactSetStationRow.holds Try.pinned (OpenSpec.ofChange fnExactSetStationWrong)

/-- 'laws.FnExactTwistRotor': WHATEVER THE INPUT: true; the input reads as it did. -/
def fnExactTwistRotorSpec : ChangeSpec := { name := "fnExactTwistRotor", fn := fun _ => fun
  | [d1, d2] => { results := [.lit (.bool true)], args := [d1, d2] }
  | _ => none }
def fnExactTwistRotorRow : OpenClaim := { program := "ytiiiigldpbomkaa", sum := "45cb8d77e6f3199840893c83155aa10dd1d9e70b56e0008e155ff9fd5b50f8b3", func := "loop.example/g01256/laws.FnExactTwistRotor", spec := "fnExactTwistRotor", inPlace := ["math.Float64bits", "math.Float64frombits"], unfollowed := true, recurses := true, apart := false }
def FnExactTwistRotorSaid : Prop := fnExactTwistRotorRow.holds Try.pinned (OpenSpec.ofChange fnExactTwistRotorSpec)

/-- ITS FALSE NEIGHBOUR: 'it returns false'. Refute it at one input. -/
def fnExactTwistRotorWrong : ChangeSpec := { name := "fnExactTwistRotor", fn := fun _ => fun
  | [d1, d2] => { results := [.lit (.bool false)], args := [d1, d2] }
  | _ => none }
def FnExactTwistRotorWrongFalsely : Prop := fnExactTwistRotorRow.holds Try.pinned (OpenSpec.ofChange fnExactTwistRotorWrong)

/-- 'laws.FnExactScaleRotor': WHATEVER THE INPUT: true; the input reads as it did. -/
def fnExactScaleRotorSpec : ChangeSpec := { name := "fnExactScaleRotor", fn := fun _ => fun
  | [d1, d2] => { results := [.lit (.bool true)], args := [d1, d2] }
  | _ => none }
def fnExactScaleRotorRow : OpenClaim := { program := "ytiiiigldpbomkaa", sum := "45cb8d77e6f3199840893c83155aa10dd1d9e70b56e0008e155ff9fd5b50f8b3", func := "loop.example/g01256/laws.FnExactScaleRotor", spec := "fnExactScaleRotor", inPlace := ["math.Float64bits", "math.Float64frombits"], unfollowed := true, recurses := true, apart := false }
def FnExactScaleRotorSaid : Prop := fnExactScaleRotorRow.holds Try.pinned (OpenSpec.ofChange fnExactScaleRotorSpec)

/-- ITS FALSE NEIGHBOUR: 'it returns false'. Refute it at one input. -/
def fnExactScaleRotorWrong : ChangeSpec := { name := "fnExactScaleRotor", fn := fun _ => fun
  | [d1, d2] => { results := [.lit (.bool false)], args := [d1, d2] }
  | _ => none }
def FnExactScaleRotorWrongFalsely : Prop := fnExactScaleRotorRow.holds Try.pinned (OpenSpec.ofChange fnExactScaleRotorWrong)

/-- 'laws.FnExactDiscPower': WHATEVER THE INPUT: true; the input reads as it did. -/
def fnExactDiscPowerSpec : ChangeSpec := { name := "fnExactDiscPower", fn := fun _ => fun
  | [d1, d2, d3, d4] => { results := [.lit (.bool true)], args := [d1, d2, d3, d4] }
  | _ => none }
def fnExactDiscPowerRow : OpenClaim := { program := "ytiiiigldpbomkaa", sum := "45cb8d77e6f3199840893c83155aa10dd1d9e70b56e0008e155ff9fd5b50f8b3", func := "loop.example/g01256/laws.FnExactDiscPower", spec := "fnExactDiscPower", inPlace := ["math.sqrt", "math.Float64bits", "math.Float64frombits"], unfollowed := true, recurses := true, apart := false }
def FnExactDiscPowerSaid : Prop := fnExactDiscPowerRow.holds Try.pinned (OpenSpec.ofChange fnExactDiscPowerSpec)

/-- ITS FALSE NEIGHBOUR: 'it returns false'. Refute it at one input. -/
def fnExactDiscPowerWrong : ChangeSpec := { name := "fnExactDiscPower", fn := fun _ => fun
  | [d1, d2, d3, d4] => { results := [.lit (.bool false)], args := [d1, d2, d3, d4] }
  | _ => none }
def FnExactDiscPowerWrongFalsely : Prop := fnExactDiscPowerRow.holds Try.pinned (OpenSpec.ofChange fnExactDiscPowerWrong)

/-- 'laws.FnExactRoseOf': WHATEVER THE INPUT: true; the input reads as it did. -/
def fnExactRoseOfSpec : ChangeSpec := { name := "fnExactRoseOf", fn := fun _ => fun
  | [d1, d2, d3] => { results := [.lit (.bool true)], args := [d1, d2, d3] }
  | _ => none }
def fnExactRoseOfRow : OpenClaim := { program := "ytiiiigldpbomkaa", sum := "45cb8d77e6f3199840893c83155aa10dd1d9e70b56e0008e155ff9fd5b50f8b3", func := "loop.example/g01256/laws.FnExactRoseOf", spec := "fnExactRoseOf", inPlace := ["math.archFloor", "math.Float64bits", "math.Float64frombits", "math.archTrunc"], unfollowed := true, recurses := true, apart := false }
def FnExactRoseOfSaid : Prop := fnExactRoseOfRow.holds Try.pinned (OpenSpec.ofChange fnExactRoseOfSpec)

/-- ITS FALSE NEIGHBOUR: 'it returns false'. Refute it at one input. -/
def fnExactRoseOfWrong : ChangeSpec := { name := "fnExactRoseOf", fn := fun _ => fun
  | [d1, d2, d3] => { results := [.lit (.bool false)], args := [d1, d2, d3] }
  | _ => none }
def FnExactRoseOfWrongFalsely : Prop := fnExactRoseOfRow.holds Try.pinned (OpenSpec.ofChange fnExactRoseOfWrong)

/-- 'laws.FnExactMixRoses': WHATEVER THE INPUT: true; the input reads as it did. -/
def fnExactMixRosesSpec : ChangeSpec := { name := "fnExactMixRoses", fn := fun _ => fun
  | [d1, d2, d3] => { results := [.lit (.bool true)], args := [d1, d2, d3] }
  | _ => none }
def fnExactMixRosesRow : OpenClaim := { program := "ytiiiigldpbomkaa", sum := "45cb8d77e6f3199840893c83155aa10dd1d9e70b56e0008e155ff9fd5b50f8b3", func := "loop.example/g01256/laws.FnExactMixRoses", spec := "fnExactMixRoses", inPlace := ["math.Float64bits", "math.Float64frombits"], unfollowed := true, recurses := true, apart := false }
def FnExactMixRosesSaid : Prop := fnExactMixRosesRow.holds Try.pinned (OpenSpec.ofChange fnExactMixRosesSpec)

/-- ITS FALSE NEIGHBOUR: 'it returns false'. Refute it at one input. -/
def fnExactMixRosesWrong : ChangeSpec := { name := "fnExactMixRoses", fn := fun _ => fun
  | [d1, d2, d3] => { results := [.lit (.bool false)], args := [d1, d2, d3] }
  | _ => none }
def FnExactMixRosesWrongFalsely : Prop := fnExactMixRosesRow.holds Try.pinned (OpenSpec.ofChange fnExactMixRosesWrong)

/-- 'laws.FnExactAddPlace': WHATEVER THE INPUT: true; the input reads as it did. -/
def fnExactAddPlaceSpec : ChangeSpec := { name := "fnExactAddPlace", fn := fun _ => fun
  | [d1, d2, d3] => { results := [.lit (.bool true)], args := [d1, d2, d3] }
  | _ => none }
def fnExactAddPlaceRow : OpenClaim := { program := "ytiiiigldpbomkaa", sum := "45cb8d77e6f3199840893c83155aa10dd1d9e70b56e0008e155ff9fd5b50f8b3", func := "loop.example/g01256/laws.FnExactAddPlace", spec := "fnExactAddPlace", inPlace := ["math.Float64bits", "math.Float64frombits"], unfollowed := true, recurses := true, apart := false }
def FnExactAddPlaceSaid : Prop := fnExactAddPlaceRow.holds Try.pinned (OpenSpec.ofChange fnExactAddPlaceSpec)

/-- ITS FALSE NEIGHBOUR: 'it returns false'. Refute it at one input. -/
def fnExactAddPlaceWrong : ChangeSpec := { name := "fnExactAddPlace", fn := fun _ => fun
  | [d1, d2, d3] => { results := [.lit (.bool false)], args := [d1, d2, d3] }
  | _ => none }
def FnExactAddPlaceWrongFalsely : Prop := fnExactAddPlaceRow.holds Try.pinned (OpenSpec.ofChange fnExactAddPlaceWrong)

/-- 'laws.FnExactMovePlace': WHATEVER THE INPUT: true; the input reads as it did. -/
def fnExactMovePlaceSpec : ChangeSpec := { name := "fnExactMovePlace", fn := fun _ => fun
  | [d1, d2, d3, d4] => { results := [.lit (.bool true)], args := [d1, d2, d3, d4] }
  | _ => none }
def fnExactMovePlaceRow : OpenClaim := { program := "ytiiiigldpbomkaa", sum := "45cb8d77e6f3199840893c83155aa10dd1d9e70b56e0008e155ff9fd5b50f8b3", func := "loop.example/g01256/laws.FnExactMovePlace", spec := "fnExactMovePlace", inPlace := ["math.Float64bits", "math.Float64frombits"], unfollowed := true, recurses := true, apart := false }
def FnExactMovePlaceSaid : Prop := fnExactMovePlaceRow.holds Try.pinned (OpenSpec.ofChange fnExactMovePlaceSpec)

/-- ITS FALSE NEIGHBOUR: 'it returns false'. Refute it at one input. -/
def fnExactMovePlaceWrong : ChangeSpec := { name := "fnExactMovePlace", fn := fun _ => fun
  | [d1, d2, d3, d4] => { results := [.lit (.bool false)], args := [d1, d2, d3, d4] }
  | _ => none }
def FnExactMovePlaceWrongFalsely : Prop := fnExactMovePlaceRow.holds Try.pinned (OpenSpec.ofChange fnExactMovePlaceWrong)

/-- 'laws.FnExactDropPlace': WHATEVER THE INPUT: true; the input reads as it did. -/
def fnExactDropPlaceSpec : ChangeSpec := { name := "fnExactDropPlace", fn := fun _ => fun
  | [d1, d2] => { results := [.lit (.bool true)], args := [d1, d2] }
  | _ => none }
def fnExactDropPlaceRow : OpenClaim := { program := "ytiiiigldpbomkaa", sum := "45cb8d77e6f3199840893c83155aa10dd1d9e70b56e0008e155ff9fd5b50f8b3", func := "loop.example/g01256/laws.FnExactDropPlace", spec := "fnExactDropPlace", inPlace := ["math.Float64bits", "math.Float64frombits"], unfollowed := true, recurses := true, apart := false }
def FnExactDropPlaceSaid : Prop := fnExactDropPlaceRow.holds Try.pinned (OpenSpec.ofChange fnExactDropPlaceSpec)

/-- ITS FALSE NEIGHBOUR: 'it returns false'. Refute it at one input. -/
def fnExactDropPlaceWrong : ChangeSpec := { name := "fnExactDropPlace", fn := fun _ => fun
  | [d1, d2] => { results := [.lit (.bool false)], args := [d1, d2] }
  | _ => none }
def FnExactDropPlaceWrongFalsely : Prop := fnExactDropPlaceRow.holds Try.pinned (OpenSpec.ofChange fnExactDropPlaceWrong)

/-- 'laws.FnExactSameDesk': WHATEVER THE INPUT: true; the input reads as it did. -/
def fnExactSameDeskSpec : ChangeSpec := { name := "fnExactSameDesk", fn := fun _ => fun
  | [d1, d2] => { results := [.lit (.bool true)], args := [d1, d2] }
  | _ => none }
def fnExactSameDeskRow : OpenClaim := { program := "ytiiiigldpbomkaa", sum := "45cb8d77e6f3199840893c83155aa10dd1d9e70b56e0008e155ff9fd5b50f8b3", func := "loop.example/g01256/laws.FnExactSameDesk", spec := "fnExactSameDesk", inPlace := ["math.Float32bits"], unfollowed := true, recurses := true, apart := false }
def FnExactSameDeskSaid : Prop := fnExactSameDeskRow.holds Try.pinned (OpenSpec.ofChange fnExactSameDeskSpec)

/-- ITS FALSE NEIGHBOUR: 'it returns false'. Refute it at one input. -/
def fnExactSameDeskWrong : ChangeSpec := { name := "fnExactSameDesk", fn := fun _ => fun
  | [d1, d2] => { results := [.lit (.bool false)], args := [d1, d2] }
  | _ => none }
def FnExactSameDeskWrongFalsely : Prop := fnExactSameDeskRow.holds Try.pinned (OpenSpec.ofChange fnExactSameDeskWrong)

/-- 'laws.FnExactNewDesk': WHATEVER THE INPUT: true; the input reads as it did. -/
def fnExactNewDeskSpec : ChangeSpec := { name := "fnExactNewDesk", fn := fun _ => fun
  | [] => { results := [.lit (.bool true)], args := [] }
  | _ => none }
def fnExactNewDeskRow : OpenClaim := { program := "ytiiiigldpbomkaa", sum := "45cb8d77e6f3199840893c83155aa10dd1d9e70b56e0008e155ff9fd5b50f8b3", func := "loop.example/g01256/laws.FnExactNewDesk", spec := "fnExactNewDesk", inPlace := ["math.Float64frombits", "math.Float64bits"], unfollowed := true, recurses := true, apart := false }
def FnExactNewDeskSaid : Prop := fnExactNewDeskRow.holds Try.pinned (OpenSpec.ofChange fnExactNewDeskSpec)

/-- ITS FALSE NEIGHBOUR: 'it returns false'. Refute it at one input. -/
def fnExactNewDeskWrong : ChangeSpec := { name := "fnExactNewDesk", fn := fun _ => fun
  | [] => { results := [.lit (.bool false)], args := [] }
  | _ => none }
def FnExactNewDeskWrongFalsely : Prop := fnExactNewDeskRow.holds Try.pinned (OpenSpec.ofChange fnExactNewDeskWrong)

/- THE SECOND FORM. 'bulk': how many values and letters a reading holds, each counted each time it is reached (what is shared counts as often as it is met; a slice's spare places count too). A statement '..UptoSaid' is the law's where the arguments, and the package variables that the reading takes, are together of bulk at most 1048576: NARROWER than '..Said'. Prove '..Said' where nothing that the law and all that it calls make is longer than what came in: it says more and counts as full. Else prove '..UptoSaid'. A law counts once. -/
mutual
def uptoBulk {H : Type} : DataW H → Nat
  | .lit (.string bytes) => bytes.length + 1
  | .lit _ => 1
  | .nil => 1
  | .ptr d => uptoBulk d + 1
  | .slice elems spare => uptoBulkAll elems + uptoBulkAll spare + 1
  | .agg parts => uptoBulkAll parts + 1
  | .iface _ d => uptoBulk d + 1
  | .map entries => uptoBulkEntries entries + 1
  | .held _ => 1
def uptoBulkAll {H : Type} : List (DataW H) → Nat
  | [] => 0
  | d :: r => uptoBulk d + uptoBulkAll r
def uptoBulkEntries {H : Type} : List (Lit × DataW H) → Nat
  | [] => 0
  | x :: r => uptoBulkEntry x + uptoBulkEntries r
def uptoBulkEntry {H : Type} : Lit × DataW H → Nat
  | (.string bytes, d) => bytes.length + uptoBulk d + 1
  | (_, d) => uptoBulk d + 1
 end
def uptoSmall : (H : Type) → List (DataW H) → Bool := fun _ ds => decide (uptoBulkAll ds ≤ 1048576)
def OpenSpec.upto (s : _root_.Go.ChangeSpec) : _root_.Go.OpenSpec := { _root_.Go.OpenSpec.ofChange s with cond := some uptoSmall }

/-- 'laws.FnExactEvenRotor', WHERE WHAT IT READS IS OF BULK AT MOST 1048576: true; the input reads as it did. -/
def fnExactEvenRotorUptoRow : OpenClaim := { program := "ytiiiigldpbomkaa", sum := "45cb8d77e6f3199840893c83155aa10dd1d9e70b56e0008e155ff9fd5b50f8b3", func := "loop.example/g01256/laws.FnExactEvenRotor", spec := "fnExactEvenRotor", inPlace := ["math.Float64bits", "math.Float64frombits"], unfollowed := true, recurses := true, apart := false, narrowed := true }
def FnExactEvenRotorUptoSaid : Prop := fnExactEvenRotorUptoRow.holds Try.pinned (OpenSpec.upto fnExactEvenRotorSpec)

/-- 'laws.FnExactSetStation', WHERE WHAT IT READS IS OF BULK AT MOST 1048576: true; the input reads as it did. -/
def fnExactSetStationUptoRow : OpenClaim := { program := "ytiiiigldpbomkaa", sum := "45cb8d77e6f3199840893c83155aa10dd1d9e70b56e0008e155ff9fd5b50f8b3", func := "loop.example/g01256/laws.FnExactSetStation", spec := "fnExactSetStation", inPlace := ["math.Float64bits", "math.Float64frombits"], unfollowed := true, recurses := true, apart := false, narrowed := true }
def FnExactSetStationUptoSaid : Prop := fnExactSetStationUptoRow.holds Try.pinned (OpenSpec.upto fnExactSetStationSpec)

/-- 'laws.FnExactTwistRotor', WHERE WHAT IT READS IS OF BULK AT MOST 1048576: true; the input reads as it did. -/
def fnExactTwistRotorUptoRow : OpenClaim := { program := "ytiiiigldpbomkaa", sum := "45cb8d77e6f3199840893c83155aa10dd1d9e70b56e0008e155ff9fd5b50f8b3", func := "loop.example/g01256/laws.FnExactTwistRotor", spec := "fnExactTwistRotor", inPlace := ["math.Float64bits", "math.Float64frombits"], unfollowed := true, recurses := true, apart := false, narrowed := true }
def FnExactTwistRotorUptoSaid : Prop := fnExactTwistRotorUptoRow.holds Try.pinned (OpenSpec.upto fnExactTwistRotorSpec)

/-- 'laws.FnExactScaleRotor', WHERE WHAT IT READS IS OF BULK AT MOST 1048576: true; the input reads as it did. -/
def fnExactScaleRotorUptoRow : OpenClaim := { program := "ytiiiigldpbomkaa", sum := "45cb8d77e6f3199840893c83155aa10dd1d9e70b56e0008e155ff9fd5b50f8b3", func := "loop.example/g01256/laws.FnExactScaleRotor", spec := "fnExactScaleRotor", inPlace := ["math.Float64bits", "math.Float64frombits"], unfollowed := true, recurses := true, apart := false, narrowed := true }
def FnExactScaleRotorUptoSaid : Prop := fnExactScaleRotorUptoRow.holds Try.pinned (OpenSpec.upto fnExactScaleRotorSpec)

/-- 'laws.FnExactDiscPower', WHERE WHAT IT READS IS OF BULK AT MOST 1048576: true; the input reads as it did. -/
def fnExactDiscPowerUptoRow : OpenClaim := { program := "ytiiiigldpbomkaa", sum := "45cb8d77e6f3199840893c83155aa10dd1d9e70b56e0008e155ff9fd5b50f8b3", func := "loop.example/g01256/laws.FnExactDiscPower", spec := "fnExactDiscPower", inPlace := ["math.sqrt", "math.Float64bits", "math.Float64frombits"], unfollowed := true, recurses := true, apart := false, narrowed := true }
def FnExactDiscPowerUptoSaid : Prop := fnExactDiscPowerUptoRow.holds Try.pinned (OpenSpec.upto fnExactDiscPowerSpec)

/-- 'laws.FnExactRoseOf', WHERE WHAT IT READS IS OF BULK AT MOST 1048576: true; the input reads as it did. -/
def fnExactRoseOfUptoRow : OpenClaim := { program := "ytiiiigldpbomkaa", sum := "45cb8d77e6f3199840893c83155aa10dd1d9e70b56e0008e155ff9fd5b50f8b3", func := "loop.example/g01256/laws.FnExactRoseOf", spec := "fnExactRoseOf", inPlace := ["math.archFloor", "math.Float64bits", "math.Float64frombits", "math.archTrunc"], unfollowed := true, recurses := true, apart := false, narrowed := true }
def FnExactRoseOfUptoSaid : Prop := fnExactRoseOfUptoRow.holds Try.pinned (OpenSpec.upto fnExactRoseOfSpec)

/-- 'laws.FnExactMixRoses', WHERE WHAT IT READS IS OF BULK AT MOST 1048576: true; the input reads as it did. -/
def fnExactMixRosesUptoRow : OpenClaim := { program := "ytiiiigldpbomkaa", sum := "45cb8d77e6f3199840893c83155aa10dd1d9e70b56e0008e155ff9fd5b50f8b3", func := "loop.example/g01256/laws.FnExactMixRoses", spec := "fnExactMixRoses", inPlace := ["math.Float64bits", "math.Float64frombits"], unfollowed := true, recurses := true, apart := false, narrowed := true }
def FnExactMixRosesUptoSaid : Prop := fnExactMixRosesUptoRow.holds Try.pinned (OpenSpec.upto fnExactMixRosesSpec)

/-- 'laws.FnExactAddPlace', WHERE WHAT IT READS IS OF BULK AT MOST 1048576: true; the input reads as it did. -/
def fnExactAddPlaceUptoRow : OpenClaim := { program := "ytiiiigldpbomkaa", sum := "45cb8d77e6f3199840893c83155aa10dd1d9e70b56e0008e155ff9fd5b50f8b3", func := "loop.example/g01256/laws.FnExactAddPlace", spec := "fnExactAddPlace", inPlace := ["math.Float64bits", "math.Float64frombits"], unfollowed := true, recurses := true, apart := false, narrowed := true }
def FnExactAddPlaceUptoSaid : Prop := fnExactAddPlaceUptoRow.holds Try.pinned (OpenSpec.upto fnExactAddPlaceSpec)

/-- 'laws.FnExactMovePlace', WHERE WHAT IT READS IS OF BULK AT MOST 1048576: true; the input reads as it did. -/
def fnExactMovePlaceUptoRow : OpenClaim := { program := "ytiiiigldpbomkaa", sum := "45cb8d77e6f3199840893c83155aa10dd1d9e70b56e0008e155ff9fd5b50f8b3", func := "loop.example/g01256/laws.FnExactMovePlace", spec := "fnExactMovePlace", inPlace := ["math.Float64bits", "math.Float64frombits"], unfollowed := true, recurses := true, apart := false, narrowed := true }
def FnExactMovePlaceUptoSaid : Prop := fnExactMovePlaceUptoRow.holds Try.pinned (OpenSpec.upto fnExactMovePlaceSpec)

/-- 'laws.FnExactDropPlace', WHERE WHAT IT READS IS OF BULK AT MOST 1048576: true; the input reads as it did. -/
def fnExactDropPlaceUptoRow : OpenClaim := { program := "ytiiiigldpbomkaa", sum := "45cb8d77e6f3199840893c83155aa10dd1d9e70b56e0008e155ff9fd5b50f8b3", func := "loop.example/g01256/laws.FnExactDropPlace", spec := "fnExactDropPlace", inPlace := ["math.Float64bits", "math.Float64frombits"], unfollowed := true, recurses := true, apart := false, narrowed := true }
def FnExactDropPlaceUptoSaid : Prop := fnExactDropPlaceUptoRow.holds Try.pinned (OpenSpec.upto fnExactDropPlaceSpec)

/-- 'laws.FnExactSameDesk', WHERE WHAT IT READS IS OF BULK AT MOST 1048576: true; the input reads as it did. -/
def fnExactSameDeskUptoRow : OpenClaim := { program := "ytiiiigldpbomkaa", sum := "45cb8d77e6f3199840893c83155aa10dd1d9e70b56e0008e155ff9fd5b50f8b3", func := "loop.example/g01256/laws.FnExactSameDesk", spec := "fnExactSameDesk", inPlace := ["math.Float32bits"], unfollowed := true, recurses := true, apart := false, narrowed := true }
def FnExactSameDeskUptoSaid : Prop := fnExactSameDeskUptoRow.holds Try.pinned (OpenSpec.upto fnExactSameDeskSpec)

/-- 'laws.FnExactNewDesk', WHERE WHAT IT READS IS OF BULK AT MOST 1048576: true; the input reads as it did. -/
def fnExactNewDeskUptoRow : OpenClaim := { program := "ytiiiigldpbomkaa", sum := "45cb8d77e6f3199840893c83155aa10dd1d9e70b56e0008e155ff9fd5b50f8b3", func := "loop.example/g01256/laws.FnExactNewDesk", spec := "fnExactNewDesk", inPlace := ["math.Float64frombits", "math.Float64bits"], unfollowed := true, recurses := true, apart := false, narrowed := true }
def FnExactNewDeskUptoSaid : Prop := fnExactNewDeskUptoRow.holds Try.pinned (OpenSpec.upto fnExactNewDeskSpec)

end Rows
end Go.Proofs.Ytiiiigldpbomkaa
