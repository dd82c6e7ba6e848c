/-
  No cell of these rows narrows 'for every input' (looked for: loops, veiled, ifaces, maps, wideKeys, modest, calm, conditions, laid).
  DERIVED. THE GIVEN ROWS OF THIS SEAT. 8 by the template 'for every input the law returns true; each argument reads behind the call as it read before'; 0 by the template 'total and deterministic' (their statements: YtahbcpjipomcgaaGreatTotals.lean).
  GIVEN WITH THE SEED: the statements are not yours to turn. If you find one false, say at which input.
  Laid BY PROGRAM, IN A SANDBOX (cutbox-rows.mjs): the forced cells as the released guide's own fill.sh prints them over the translation d03a02cb928c1280… (all of the seat's roots in one cut). By AI agents, Wed Nov 11 2026. No macro, syntax, notation, axiom, sorry.
-/
import Derived.Test.YtahbcpjipomcgaaGreatChecked
import GoSem.Claim
import GoSem.ClaimJoined
import GoSem.ClaimMapViews
import Derived.JoinedTies
import Derived.KernelRfl
namespace Go.Proofs.YtahbcpjipomcgaaGreat
/- THE CELL 'sum', in the pinned program and in every row, IS THE sha256 OF THE DUMP (.gsa) THAT YtahbcpjipomcgaaGreatProg.lean LOADS. Nothing in Lean hashes anything: it is a label: what it is worth is what the hold of that sum in a sandbox is worth. -/
noncomputable def Tryz.pinned : Pinned := { name := "ytahbcpjipomcgaagreat", sum := "d03a02cb928c128043cf1262fab6ac757cf3bb186b5e97d91f307c7d7404e6f5", checked := Tryz.checked }
namespace Rows
def none {H : Type} : Left H := { results := [], args := [] }

/-- 'laws.FnExactForcesOfRotor': WHATEVER THE INPUT: true; the input reads as it did. -/
def fnExactForcesOfRotorSpec : ChangeSpec := { name := "fnExactForcesOfRotor", fn := fun _ => fun
  | [d1, d2, d3, d4, d5] => { results := [.lit (.bool true)], args := [d1, d2, d3, d4, d5] }
  | _ => none }
def fnExactForcesOfRotorRow : OpenClaim := { program := "ytahbcpjipomcgaagreat", sum := "d03a02cb928c128043cf1262fab6ac757cf3bb186b5e97d91f307c7d7404e6f5", func := "loop.example/g01256/laws.FnExactForcesOfRotor", spec := "fnExactForcesOfRotor", inPlace := ["math.archFloor", "math.Float64bits", "math.Float64frombits", "math.archTrunc"], unfollowed := true, recurses := true, apart := false }
def FnExactForcesOfRotorSaid : Prop := fnExactForcesOfRotorRow.holds Tryz.pinned (OpenSpec.ofChange fnExactForcesOfRotorSpec)

/-- ITS FALSE NEIGHBOUR: 'it returns false'. Refute it at one input. -/
def fnExactForcesOfRotorWrong : ChangeSpec := { name := "fnExactForcesOfRotor", fn := fun _ => fun
  | [d1, d2, d3, d4, d5] => { results := [.lit (.bool false)], args := [d1, d2, d3, d4, d5] }
  | _ => none }
def FnExactForcesOfRotorWrongFalsely : Prop := fnExactForcesOfRotorRow.holds Tryz.pinned (OpenSpec.ofChange fnExactForcesOfRotorWrong)

/-- 'laws.FnExactThrustOf': WHATEVER THE INPUT: true; the input reads as it did. -/
def fnExactThrustOfSpec : ChangeSpec := { name := "fnExactThrustOf", fn := fun _ => fun
  | [d1, d2, d3, d4, d5] => { results := [.lit (.bool true)], args := [d1, d2, d3, d4, d5] }
  | _ => none }
def fnExactThrustOfRow : OpenClaim := { program := "ytahbcpjipomcgaagreat", sum := "d03a02cb928c128043cf1262fab6ac757cf3bb186b5e97d91f307c7d7404e6f5", func := "loop.example/g01256/laws.FnExactThrustOf", spec := "fnExactThrustOf", inPlace := ["math.archFloor", "math.Float64bits", "math.Float64frombits", "math.archTrunc"], unfollowed := true, recurses := true, apart := false }
def FnExactThrustOfSaid : Prop := fnExactThrustOfRow.holds Tryz.pinned (OpenSpec.ofChange fnExactThrustOfSpec)

/-- ITS FALSE NEIGHBOUR: 'it returns false'. Refute it at one input. -/
def fnExactThrustOfWrong : ChangeSpec := { name := "fnExactThrustOf", fn := fun _ => fun
  | [d1, d2, d3, d4, d5] => { results := [.lit (.bool false)], args := [d1, d2, d3, d4, d5] }
  | _ => none }
def FnExactThrustOfWrongFalsely : Prop := fnExactThrustOfRow.holds Tryz.pinned (OpenSpec.ofChange fnExactThrustOfWrong)

/-- 'laws.FnExactTorqueOf': WHATEVER THE INPUT: true; the input reads as it did. -/
def fnExactTorqueOfSpec : ChangeSpec := { name := "fnExactTorqueOf", fn := fun _ => fun
  | [d1, d2, d3, d4, d5] => { results := [.lit (.bool true)], args := [d1, d2, d3, d4, d5] }
  | _ => none }
def fnExactTorqueOfRow : OpenClaim := { program := "ytahbcpjipomcgaagreat", sum := "d03a02cb928c128043cf1262fab6ac757cf3bb186b5e97d91f307c7d7404e6f5", func := "loop.example/g01256/laws.FnExactTorqueOf", spec := "fnExactTorqueOf", inPlace := ["math.archFloor", "math.Float64bits", "math.Float64frombits", "math.archTrunc"], unfollowed := true, recurses := true, apart := false }
def FnExactTorqueOfSaid : Prop := fnExactTorqueOfRow.holds Tryz.pinned (OpenSpec.ofChange fnExactTorqueOfSpec)

/-- ITS FALSE NEIGHBOUR: 'it returns false'. Refute it at one input. -/
def fnExactTorqueOfWrong : ChangeSpec := { name := "fnExactTorqueOf", fn := fun _ => fun
  | [d1, d2, d3, d4, d5] => { results := [.lit (.bool false)], args := [d1, d2, d3, d4, d5] }
  | _ => none }
def FnExactTorqueOfWrongFalsely : Prop := fnExactTorqueOfRow.holds Tryz.pinned (OpenSpec.ofChange fnExactTorqueOfWrong)

/-- 'laws.FnExactBendingOf': WHATEVER THE INPUT: true; the input reads as it did. -/
def fnExactBendingOfSpec : ChangeSpec := { name := "fnExactBendingOf", fn := fun _ => fun
  | [d1, d2, d3, d4, d5] => { results := [.lit (.bool true)], args := [d1, d2, d3, d4, d5] }
  | _ => none }
def fnExactBendingOfRow : OpenClaim := { program := "ytahbcpjipomcgaagreat", sum := "d03a02cb928c128043cf1262fab6ac757cf3bb186b5e97d91f307c7d7404e6f5", func := "loop.example/g01256/laws.FnExactBendingOf", spec := "fnExactBendingOf", inPlace := ["math.archFloor", "math.Float64bits", "math.Float64frombits", "math.archTrunc"], unfollowed := true, recurses := true, apart := false }
def FnExactBendingOfSaid : Prop := fnExactBendingOfRow.holds Tryz.pinned (OpenSpec.ofChange fnExactBendingOfSpec)

/-- ITS FALSE NEIGHBOUR: 'it returns false'. Refute it at one input. -/
def fnExactBendingOfWrong : ChangeSpec := { name := "fnExactBendingOf", fn := fun _ => fun
  | [d1, d2, d3, d4, d5] => { results := [.lit (.bool false)], args := [d1, d2, d3, d4, d5] }
  | _ => none }
def FnExactBendingOfWrongFalsely : Prop := fnExactBendingOfRow.holds Tryz.pinned (OpenSpec.ofChange fnExactBendingOfWrong)

/-- 'laws.FnExactRotorPower': WHATEVER THE INPUT: true; the input reads as it did. -/
def fnExactRotorPowerSpec : ChangeSpec := { name := "fnExactRotorPower", fn := fun _ => fun
  | [d1, d2, d3, d4, d5] => { results := [.lit (.bool true)], args := [d1, d2, d3, d4, d5] }
  | _ => none }
def fnExactRotorPowerRow : OpenClaim := { program := "ytahbcpjipomcgaagreat", sum := "d03a02cb928c128043cf1262fab6ac757cf3bb186b5e97d91f307c7d7404e6f5", func := "loop.example/g01256/laws.FnExactRotorPower", spec := "fnExactRotorPower", inPlace := ["math.archFloor", "math.Float64bits", "math.Float64frombits", "math.archTrunc"], unfollowed := true, recurses := true, apart := false }
def FnExactRotorPowerSaid : Prop := fnExactRotorPowerRow.holds Tryz.pinned (OpenSpec.ofChange fnExactRotorPowerSpec)

/-- ITS FALSE NEIGHBOUR: 'it returns false'. Refute it at one input. -/
def fnExactRotorPowerWrong : ChangeSpec := { name := "fnExactRotorPower", fn := fun _ => fun
  | [d1, d2, d3, d4, d5] => { results := [.lit (.bool false)], args := [d1, d2, d3, d4, d5] }
  | _ => none }
def FnExactRotorPowerWrongFalsely : Prop := fnExactRotorPowerRow.holds Tryz.pinned (OpenSpec.ofChange fnExactRotorPowerWrong)

/-- 'laws.FnExactPowerCurve': WHATEVER THE INPUT: true; the input reads as it did. -/
def fnExactPowerCurveSpec : ChangeSpec := { name := "fnExactPowerCurve", fn := fun _ => fun
  | [d1, d2, d3, d4, d5] => { results := [.lit (.bool true)], args := [d1, d2, d3, d4, d5] }
  | _ => none }
def fnExactPowerCurveRow : OpenClaim := { program := "ytahbcpjipomcgaagreat", sum := "d03a02cb928c128043cf1262fab6ac757cf3bb186b5e97d91f307c7d7404e6f5", func := "loop.example/g01256/laws.FnExactPowerCurve", spec := "fnExactPowerCurve", inPlace := ["math.archFloor", "math.Float64bits", "math.Float64frombits", "math.archTrunc"], unfollowed := true, recurses := true, apart := false }
def FnExactPowerCurveSaid : Prop := fnExactPowerCurveRow.holds Tryz.pinned (OpenSpec.ofChange fnExactPowerCurveSpec)

/-- ITS FALSE NEIGHBOUR: 'it returns false'. Refute it at one input. -/
def fnExactPowerCurveWrong : ChangeSpec := { name := "fnExactPowerCurve", fn := fun _ => fun
  | [d1, d2, d3, d4, d5] => { results := [.lit (.bool false)], args := [d1, d2, d3, d4, d5] }
  | _ => none }
def FnExactPowerCurveWrongFalsely : Prop := fnExactPowerCurveRow.holds Tryz.pinned (OpenSpec.ofChange fnExactPowerCurveWrong)

/-- 'laws.FnExactBestTwist': WHATEVER THE INPUT: true; the input reads as it did. -/
def fnExactBestTwistSpec : ChangeSpec := { name := "fnExactBestTwist", fn := fun _ => fun
  | [d1, d2, d3, d4, d5] => { results := [.lit (.bool true)], args := [d1, d2, d3, d4, d5] }
  | _ => none }
def fnExactBestTwistRow : OpenClaim := { program := "ytahbcpjipomcgaagreat", sum := "d03a02cb928c128043cf1262fab6ac757cf3bb186b5e97d91f307c7d7404e6f5", func := "loop.example/g01256/laws.FnExactBestTwist", spec := "fnExactBestTwist", inPlace := ["math.archFloor", "math.Float64bits", "math.Float64frombits", "math.archTrunc"], unfollowed := true, recurses := true, apart := false }
def FnExactBestTwistSaid : Prop := fnExactBestTwistRow.holds Tryz.pinned (OpenSpec.ofChange fnExactBestTwistSpec)

/-- ITS FALSE NEIGHBOUR: 'it returns false'. Refute it at one input. -/
def fnExactBestTwistWrong : ChangeSpec := { name := "fnExactBestTwist", fn := fun _ => fun
  | [d1, d2, d3, d4, d5] => { results := [.lit (.bool false)], args := [d1, d2, d3, d4, d5] }
  | _ => none }
def FnExactBestTwistWrongFalsely : Prop := fnExactBestTwistRow.holds Tryz.pinned (OpenSpec.ofChange fnExactBestTwistWrong)

/-- 'laws.FnExactBestSpeed': WHATEVER THE INPUT: true; the input reads as it did. -/
def fnExactBestSpeedSpec : ChangeSpec := { name := "fnExactBestSpeed", fn := fun _ => fun
  | [d1, d2, d3, d4, d5] => { results := [.lit (.bool true)], args := [d1, d2, d3, d4, d5] }
  | _ => none }
def fnExactBestSpeedRow : OpenClaim := { program := "ytahbcpjipomcgaagreat", sum := "d03a02cb928c128043cf1262fab6ac757cf3bb186b5e97d91f307c7d7404e6f5", func := "loop.example/g01256/laws.FnExactBestSpeed", spec := "fnExactBestSpeed", inPlace := ["math.archFloor", "math.Float64bits", "math.Float64frombits", "math.archTrunc"], unfollowed := true, recurses := true, apart := false }
def FnExactBestSpeedSaid : Prop := fnExactBestSpeedRow.holds Tryz.pinned (OpenSpec.ofChange fnExactBestSpeedSpec)

/-- ITS FALSE NEIGHBOUR: 'it returns false'. Refute it at one input. -/
def fnExactBestSpeedWrong : ChangeSpec := { name := "fnExactBestSpeed", fn := fun _ => fun
  | [d1, d2, d3, d4, d5] => { results := [.lit (.bool false)], args := [d1, d2, d3, d4, d5] }
  | _ => none }
def FnExactBestSpeedWrongFalsely : Prop := fnExactBestSpeedRow.holds Tryz.pinned (OpenSpec.ofChange fnExactBestSpeedWrong)

/- THE SECOND FORM. 'bulk': how many values and letters a reading holds, each counted each time it is reached (what is shared counts as often as it is met; a slice's spare places count too). A statement '..UptoSaid' is the law's where the arguments, and the package variables that the reading takes, are together of bulk at most 1048576: NARROWER than '..Said'. Prove '..Said' where nothing that the law and all that it calls make is longer than what came in: it says more and counts as full. Else prove '..UptoSaid'. A law counts once. -/
mutual
def uptoBulk {H : Type} : DataW H → Nat
  | .lit (.string bytes) => bytes.length + 1
  | .lit _ => 1
  | .nil => 1
  | .ptr d => uptoBulk d + 1
  | .slice elems spare => uptoBulkAll elems + uptoBulkAll spare + 1
  | .agg parts => uptoBulkAll parts + 1
  | .iface _ d => uptoBulk d + 1
  | .map entries => uptoBulkEntries entries + 1
  | .held _ => 1
def uptoBulkAll {H : Type} : List (DataW H) → Nat
  | [] => 0
  | d :: r => uptoBulk d + uptoBulkAll r
def uptoBulkEntries {H : Type} : List (Lit × DataW H) → Nat
  | [] => 0
  | x :: r => uptoBulkEntry x + uptoBulkEntries r
def uptoBulkEntry {H : Type} : Lit × DataW H → Nat
  | (.string bytes, d) => bytes.length + uptoBulk d + 1
  | (_, d) => uptoBulk d + 1
 end
def uptoSmall : (H : Type) → List (DataW H) → Bool := fun _ ds => decide (uptoBulkAll ds ≤ 1048576)
def OpenSpec.upto (s : _root_.Go.ChangeSpec) : _root_.Go.OpenSpec := { _root_.Go.OpenSpec.ofChange s with cond := some uptoSmall }

/-- 'laws.FnExactForcesOfRotor', WHERE WHAT IT READS IS OF BULK AT MOST 1048576: true; the input reads as it did. -/
def fnExactForcesOfRotorUptoRow : OpenClaim := { program := "ytahbcpjipomcgaagreat", sum := "d03a02cb928c128043cf1262fab6ac757cf3bb186b5e97d91f307c7d7404e6f5", func := "loop.example/g01256/laws.FnExactForcesOfRotor", spec := "fnExactForcesOfRotor", inPlace := ["math.archFloor", "math.Float64bits", "math.Float64frombits", "math.archTrunc"], unfollowed := true, recurses := true, apart := false, narrowed := true }
def FnExactForcesOfRotorUptoSaid : Prop := fnExactForcesOfRotorUptoRow.holds Tryz.pinned (OpenSpec.upto fnExactForcesOfRotorSpec)

/-- 'laws.FnExactThrustOf', WHERE WHAT IT READS IS OF BULK AT MOST 1048576: true; the input reads as it did. -/
def fnExactThrustOfUptoRow : OpenClaim := { program := "ytahbcpjipomcgaagreat", sum := "d03a02cb928c128043cf1262fab6ac757cf3bb186b5e97d91f307c7d7404e6f5", func := "loop.example/g01256/laws.FnExactThrustOf", spec := "fnExactThrustOf", inPlace := ["math.archFloor", "math.Float64bits", "math.Float64frombits", "math.archTrunc"], unfollowed := true, recurses := true, apart := false, narrowed := true }
def FnExactThrustOfUptoSaid : Prop := fnExactThrustOfUptoRow.holds Tryz.pinned (OpenSpec.upto fnExactThrustOfSpec)

/-- 'laws.FnExactTorqueOf', WHERE WHAT IT READS IS OF BULK AT MOST 1048576: true; the input reads as it did. -/
def fnExactTorqueOfUptoRow : OpenClaim := { program := "ytahbcpjipomcgaagreat", sum := "d03a02cb928c128043cf1262fab6ac757cf3bb186b5e97d91f307c7d7404e6f5", func := "loop.example/g01256/laws.FnExactTorqueOf", spec := "fnExactTorqueOf", inPlace := ["math.archFloor", "math.Float64bits", "math.Float64frombits", "math.archTrunc"], unfollowed := true, recurses := true, apart := false, narrowed := true }
def FnExactTorqueOfUptoSaid : Prop := fnExactTorqueOfUptoRow.holds Tryz.pinned (OpenSpec.upto fnExactTorqueOfSpec)

/-- 'laws.FnExactBendingOf', WHERE WHAT IT READS IS OF BULK AT MOST 1048576: true; the input reads as it did. -/
def fnExactBendingOfUptoRow : OpenClaim := { program := "ytahbcpjipomcgaagreat", sum := "d03a02cb928c128043cf1262fab6ac757cf3bb186b5e97d91f307c7d7404e6f5", func := "loop.example/g01256/laws.FnExactBendingOf", spec := "fnExactBendingOf", inPlace := ["math.archFloor", "math.Float64bits", "math.Float64frombits", "math.archTrunc"], unfollowed := true, recurses := true, apart := false, narrowed := true }
def FnExactBendingOfUptoSaid : Prop := fnExactBendingOfUptoRow.holds Tryz.pinned (OpenSpec.upto fnExactBendingOfSpec)

/-- 'laws.FnExactRotorPower', WHERE WHAT IT READS IS OF BULK AT MOST 1048576: true; the input reads as it did. -/
def fnExactRotorPowerUptoRow : OpenClaim := { program := "ytahbcpjipomcgaagreat", sum := "d03a02cb928c128043cf1262fab6ac757cf3bb186b5e97d91f307c7d7404e6f5", func := "loop.example/g01256/laws.FnExactRotorPower", spec := "fnExactRotorPower", inPlace := ["math.archFloor", "math.Float64bits", "math.Float64frombits", "math.archTrunc"], unfollowed := true, recurses := true, apart := false, narrowed := true }
def FnExactRotorPowerUptoSaid : Prop := fnExactRotorPowerUptoRow.holds Tryz.pinned (OpenSpec.upto fnExactRotorPowerSpec)

/-- 'laws.FnExactPowerCurve', WHERE WHAT IT READS IS OF BULK AT MOST 1048576: true; the input reads as it did. -/
def fnExactPowerCurveUptoRow : OpenClaim := { program := "ytahbcpjipomcgaagreat", sum := "d03a02cb928c128043cf1262fab6ac757cf3bb186b5e97d91f307c7d7404e6f5", func := "loop.example/g01256/laws.FnExactPowerCurve", spec := "fnExactPowerCurve", inPlace := ["math.archFloor", "math.Float64bits", "math.Float64frombits", "math.archTrunc"], unfollowed := true, recurses := true, apart := false, narrowed := true }
def FnExactPowerCurveUptoSaid : Prop := fnExactPowerCurveUptoRow.holds Tryz.pinned (OpenSpec.upto fnExactPowerCurveSpec)

/-- 'laws.FnExactBestTwist', WHERE WHAT IT READS IS OF BULK AT MOST 1048576: true; the input reads as it did. -/
def fnExactBestTwistUptoRow : OpenClaim := { program := "ytahbcpjipomcgaagreat", sum := "d03a02cb928c128043cf1262fab6ac757cf3bb186b5e97d91f307c7d7404e6f5", func := "loop.example/g01256/laws.FnExactBestTwist", spec := "fnExactBestTwist", inPlace := ["math.archFloor", "math.Float64bits", "math.Float64frombits", "math.archTrunc"], unfollowed := true, recurses := true, apart := false, narrowed := true }
def FnExactBestTwistUptoSaid : Prop := fnExactBestTwistUptoRow.holds Tryz.pinned (OpenSpec.upto fnExactBestTwistSpec)

/-- 'laws.FnExactBestSpeed', WHERE WHAT IT READS IS OF BULK AT MOST 1048576: true; the input reads as it did. -/
def fnExactBestSpeedUptoRow : OpenClaim := { program := "ytahbcpjipomcgaagreat", sum := "d03a02cb928c128043cf1262fab6ac757cf3bb186b5e97d91f307c7d7404e6f5", func := "loop.example/g01256/laws.FnExactBestSpeed", spec := "fnExactBestSpeed", inPlace := ["math.archFloor", "math.Float64bits", "math.Float64frombits", "math.archTrunc"], unfollowed := true, recurses := true, apart := false, narrowed := true }
def FnExactBestSpeedUptoSaid : Prop := fnExactBestSpeedUptoRow.holds Tryz.pinned (OpenSpec.upto fnExactBestSpeedSpec)

end Rows
end Go.Proofs.YtahbcpjipomcgaaGreat
