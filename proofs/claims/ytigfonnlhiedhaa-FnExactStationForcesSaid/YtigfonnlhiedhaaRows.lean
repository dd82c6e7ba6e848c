/-
  No cell of these rows narrows 'for every input' (looked for: loops, veiled, ifaces, maps, wideKeys, modest, calm, conditions, laid).
  DERIVED. THE GIVEN ROWS OF THIS SEAT. 10 by the template 'for every input the law returns true; each argument reads behind the call as it read before'; 0 by the template 'total and deterministic' (their statements: YtigfonnlhiedhaaTotals.lean).
  GIVEN WITH THE SEED: the statements are not yours to turn. If you find one false, say at which input.
  Laid BY PROGRAM, IN A SANDBOX (cutbox-rows.mjs): the forced cells as the released guide's own fill.sh prints them over the translation 701743bede0699c1… (all of the seat's roots in one cut). By AI agents, Wed Nov 11 2026. No macro, syntax, notation, axiom, sorry.
-/
import Derived.Test.YtigfonnlhiedhaaChecked
import GoSem.Claim
import GoSem.ClaimJoined
import GoSem.ClaimMapViews
import Derived.JoinedTies
import Derived.KernelRfl
namespace Go.Proofs.Ytigfonnlhiedhaa
/- THE CELL 'sum', in the pinned program and in every row, IS THE sha256 OF THE DUMP (.gsa) THAT YtigfonnlhiedhaaProg.lean LOADS. Nothing in Lean hashes anything: it is a label: what it is worth is what the hold of that sum in a sandbox is worth. -/
noncomputable def Try.pinned : Pinned := { name := "ytigfonnlhiedhaa", sum := "701743bede0699c12aab53a189024491efe896fdff92142fcecf5f2300972bef", checked := Try.checked }
namespace Rows
def none {H : Type} : Left H := { results := [], args := [] }

/-- 'laws.FnExactValidRotor': WHATEVER THE INPUT: true; the input reads as it did. -/
def fnExactValidRotorSpec : ChangeSpec := { name := "fnExactValidRotor", fn := fun _ => fun
  | [d] => { results := [.lit (.bool true)], args := [d] }
  | _ => none }
def fnExactValidRotorRow : OpenClaim := { program := "ytigfonnlhiedhaa", sum := "701743bede0699c12aab53a189024491efe896fdff92142fcecf5f2300972bef", func := "loop.example/g01256/laws.FnExactValidRotor", spec := "fnExactValidRotor", inPlace := ["math.Float64bits", "math.Float64frombits"], unfollowed := true, recurses := true, apart := false }
def FnExactValidRotorSaid : Prop := fnExactValidRotorRow.holds Try.pinned (OpenSpec.ofChange fnExactValidRotorSpec)

/-- ITS FALSE NEIGHBOUR: 'it returns false'. Refute it at one input. -/
def fnExactValidRotorWrong : ChangeSpec := { name := "fnExactValidRotor", fn := fun _ => fun
  | [d] => { results := [.lit (.bool false)], args := [d] }
  | _ => none }
def FnExactValidRotorWrongFalsely : Prop := fnExactValidRotorRow.holds Try.pinned (OpenSpec.ofChange fnExactValidRotorWrong)

/-- 'laws.FnExactSolidityAt': WHATEVER THE INPUT: true; the input reads as it did. -/
def fnExactSolidityAtSpec : ChangeSpec := { name := "fnExactSolidityAt", fn := fun _ => fun
  | [d1, d2] => { results := [.lit (.bool true)], args := [d1, d2] }
  | _ => none }
def fnExactSolidityAtRow : OpenClaim := { program := "ytigfonnlhiedhaa", sum := "701743bede0699c12aab53a189024491efe896fdff92142fcecf5f2300972bef", func := "loop.example/g01256/laws.FnExactSolidityAt", spec := "fnExactSolidityAt", inPlace := ["math.Float64bits", "math.Float64frombits"], unfollowed := true, recurses := true, apart := false }
def FnExactSolidityAtSaid : Prop := fnExactSolidityAtRow.holds Try.pinned (OpenSpec.ofChange fnExactSolidityAtSpec)

/-- ITS FALSE NEIGHBOUR: 'it returns false'. Refute it at one input. -/
def fnExactSolidityAtWrong : ChangeSpec := { name := "fnExactSolidityAt", fn := fun _ => fun
  | [d1, d2] => { results := [.lit (.bool false)], args := [d1, d2] }
  | _ => none }
def FnExactSolidityAtWrongFalsely : Prop := fnExactSolidityAtRow.holds Try.pinned (OpenSpec.ofChange fnExactSolidityAtWrong)

/-- 'laws.FnExactTipShareAt': WHATEVER THE INPUT: true; the input reads as it did. -/
def fnExactTipShareAtSpec : ChangeSpec := { name := "fnExactTipShareAt", fn := fun _ => fun
  | [d1, d2, d3] => { results := [.lit (.bool true)], args := [d1, d2, d3] }
  | _ => none }
def fnExactTipShareAtRow : OpenClaim := { program := "ytigfonnlhiedhaa", sum := "701743bede0699c12aab53a189024491efe896fdff92142fcecf5f2300972bef", func := "loop.example/g01256/laws.FnExactTipShareAt", spec := "fnExactTipShareAt", inPlace := ["math.Float64frombits", "math.Float64bits"], unfollowed := true, recurses := true, apart := false }
def FnExactTipShareAtSaid : Prop := fnExactTipShareAtRow.holds Try.pinned (OpenSpec.ofChange fnExactTipShareAtSpec)

/-- ITS FALSE NEIGHBOUR: 'it returns false'. Refute it at one input. -/
def fnExactTipShareAtWrong : ChangeSpec := { name := "fnExactTipShareAt", fn := fun _ => fun
  | [d1, d2, d3] => { results := [.lit (.bool false)], args := [d1, d2, d3] }
  | _ => none }
def FnExactTipShareAtWrongFalsely : Prop := fnExactTipShareAtRow.holds Try.pinned (OpenSpec.ofChange fnExactTipShareAtWrong)

/-- 'laws.FnExactWindThrough': WHATEVER THE INPUT: true; the input reads as it did. -/
def fnExactWindThroughSpec : ChangeSpec := { name := "fnExactWindThrough", fn := fun _ => fun
  | [d1, d2, d3] => { results := [.lit (.bool true)], args := [d1, d2, d3] }
  | _ => none }
def fnExactWindThroughRow : OpenClaim := { program := "ytigfonnlhiedhaa", sum := "701743bede0699c12aab53a189024491efe896fdff92142fcecf5f2300972bef", func := "loop.example/g01256/laws.FnExactWindThrough", spec := "fnExactWindThrough", inPlace := ["math.Float64bits", "math.Float64frombits"], unfollowed := true, recurses := true, apart := false }
def FnExactWindThroughSaid : Prop := fnExactWindThroughRow.holds Try.pinned (OpenSpec.ofChange fnExactWindThroughSpec)

/-- ITS FALSE NEIGHBOUR: 'it returns false'. Refute it at one input. -/
def fnExactWindThroughWrong : ChangeSpec := { name := "fnExactWindThrough", fn := fun _ => fun
  | [d1, d2, d3] => { results := [.lit (.bool false)], args := [d1, d2, d3] }
  | _ => none }
def FnExactWindThroughWrongFalsely : Prop := fnExactWindThroughRow.holds Try.pinned (OpenSpec.ofChange fnExactWindThroughWrong)

/-- 'laws.FnExactTipRatio': WHATEVER THE INPUT: true; the input reads as it did. -/
def fnExactTipRatioSpec : ChangeSpec := { name := "fnExactTipRatio", fn := fun _ => fun
  | [d1, d2, d3] => { results := [.lit (.bool true)], args := [d1, d2, d3] }
  | _ => none }
def fnExactTipRatioRow : OpenClaim := { program := "ytigfonnlhiedhaa", sum := "701743bede0699c12aab53a189024491efe896fdff92142fcecf5f2300972bef", func := "loop.example/g01256/laws.FnExactTipRatio", spec := "fnExactTipRatio", inPlace := ["math.Float64bits", "math.Float64frombits"], unfollowed := true, recurses := true, apart := false }
def FnExactTipRatioSaid : Prop := fnExactTipRatioRow.holds Try.pinned (OpenSpec.ofChange fnExactTipRatioSpec)

/-- ITS FALSE NEIGHBOUR: 'it returns false'. Refute it at one input. -/
def fnExactTipRatioWrong : ChangeSpec := { name := "fnExactTipRatio", fn := fun _ => fun
  | [d1, d2, d3] => { results := [.lit (.bool false)], args := [d1, d2, d3] }
  | _ => none }
def FnExactTipRatioWrongFalsely : Prop := fnExactTipRatioRow.holds Try.pinned (OpenSpec.ofChange fnExactTipRatioWrong)

/-- 'laws.FnExactPushesAt': WHATEVER THE INPUT: true; the input reads as it did. -/
def fnExactPushesAtSpec : ChangeSpec := { name := "fnExactPushesAt", fn := fun _ => fun
  | [d1, d2, d3, d4] => { results := [.lit (.bool true)], args := [d1, d2, d3, d4] }
  | _ => none }
def fnExactPushesAtRow : OpenClaim := { program := "ytigfonnlhiedhaa", sum := "701743bede0699c12aab53a189024491efe896fdff92142fcecf5f2300972bef", func := "loop.example/g01256/laws.FnExactPushesAt", spec := "fnExactPushesAt", inPlace := ["math.archFloor", "math.Float64bits", "math.Float64frombits", "math.archTrunc"], unfollowed := true, recurses := true, apart := false }
def FnExactPushesAtSaid : Prop := fnExactPushesAtRow.holds Try.pinned (OpenSpec.ofChange fnExactPushesAtSpec)

/-- ITS FALSE NEIGHBOUR: 'it returns false'. Refute it at one input. -/
def fnExactPushesAtWrong : ChangeSpec := { name := "fnExactPushesAt", fn := fun _ => fun
  | [d1, d2, d3, d4] => { results := [.lit (.bool false)], args := [d1, d2, d3, d4] }
  | _ => none }
def FnExactPushesAtWrongFalsely : Prop := fnExactPushesAtRow.holds Try.pinned (OpenSpec.ofChange fnExactPushesAtWrong)

/-- 'laws.FnExactBalanceOf': WHATEVER THE INPUT: true; the input reads as it did. -/
def fnExactBalanceOfSpec : ChangeSpec := { name := "fnExactBalanceOf", fn := fun _ => fun
  | [d1, d2, d3, d4, d5, d6] => { results := [.lit (.bool true)], args := [d1, d2, d3, d4, d5, d6] }
  | _ => none }
def fnExactBalanceOfRow : OpenClaim := { program := "ytigfonnlhiedhaa", sum := "701743bede0699c12aab53a189024491efe896fdff92142fcecf5f2300972bef", func := "loop.example/g01256/laws.FnExactBalanceOf", spec := "fnExactBalanceOf", inPlace := ["math.archFloor", "math.Float64bits", "math.Float64frombits", "math.archTrunc"], unfollowed := true, recurses := true, apart := false }
def FnExactBalanceOfSaid : Prop := fnExactBalanceOfRow.holds Try.pinned (OpenSpec.ofChange fnExactBalanceOfSpec)

/-- ITS FALSE NEIGHBOUR: 'it returns false'. Refute it at one input. -/
def fnExactBalanceOfWrong : ChangeSpec := { name := "fnExactBalanceOf", fn := fun _ => fun
  | [d1, d2, d3, d4, d5, d6] => { results := [.lit (.bool false)], args := [d1, d2, d3, d4, d5, d6] }
  | _ => none }
def FnExactBalanceOfWrongFalsely : Prop := fnExactBalanceOfRow.holds Try.pinned (OpenSpec.ofChange fnExactBalanceOfWrong)

/-- 'laws.FnExactFlowAt': WHATEVER THE INPUT: true; the input reads as it did. -/
def fnExactFlowAtSpec : ChangeSpec := { name := "fnExactFlowAt", fn := fun _ => fun
  | [d1, d2, d3, d4, d5] => { results := [.lit (.bool true)], args := [d1, d2, d3, d4, d5] }
  | _ => none }
def fnExactFlowAtRow : OpenClaim := { program := "ytigfonnlhiedhaa", sum := "701743bede0699c12aab53a189024491efe896fdff92142fcecf5f2300972bef", func := "loop.example/g01256/laws.FnExactFlowAt", spec := "fnExactFlowAt", inPlace := ["math.archFloor", "math.Float64bits", "math.Float64frombits", "math.archTrunc"], unfollowed := true, recurses := true, apart := false }
def FnExactFlowAtSaid : Prop := fnExactFlowAtRow.holds Try.pinned (OpenSpec.ofChange fnExactFlowAtSpec)

/-- ITS FALSE NEIGHBOUR: 'it returns false'. Refute it at one input. -/
def fnExactFlowAtWrong : ChangeSpec := { name := "fnExactFlowAt", fn := fun _ => fun
  | [d1, d2, d3, d4, d5] => { results := [.lit (.bool false)], args := [d1, d2, d3, d4, d5] }
  | _ => none }
def FnExactFlowAtWrongFalsely : Prop := fnExactFlowAtRow.holds Try.pinned (OpenSpec.ofChange fnExactFlowAtWrong)

/-- 'laws.FnExactInductionAt': WHATEVER THE INPUT: true; the input reads as it did. -/
def fnExactInductionAtSpec : ChangeSpec := { name := "fnExactInductionAt", fn := fun _ => fun
  | [d1, d2, d3, d4, d5] => { results := [.lit (.bool true)], args := [d1, d2, d3, d4, d5] }
  | _ => none }
def fnExactInductionAtRow : OpenClaim := { program := "ytigfonnlhiedhaa", sum := "701743bede0699c12aab53a189024491efe896fdff92142fcecf5f2300972bef", func := "loop.example/g01256/laws.FnExactInductionAt", spec := "fnExactInductionAt", inPlace := ["math.archFloor", "math.Float64bits", "math.Float64frombits", "math.archTrunc"], unfollowed := true, recurses := true, apart := false }
def FnExactInductionAtSaid : Prop := fnExactInductionAtRow.holds Try.pinned (OpenSpec.ofChange fnExactInductionAtSpec)

/-- ITS FALSE NEIGHBOUR: 'it returns false'. Refute it at one input. -/
def fnExactInductionAtWrong : ChangeSpec := { name := "fnExactInductionAt", fn := fun _ => fun
  | [d1, d2, d3, d4, d5] => { results := [.lit (.bool false)], args := [d1, d2, d3, d4, d5] }
  | _ => none }
def FnExactInductionAtWrongFalsely : Prop := fnExactInductionAtRow.holds Try.pinned (OpenSpec.ofChange fnExactInductionAtWrong)

/-- 'laws.FnExactStationForces': WHATEVER THE INPUT: true; the input reads as it did. -/
def fnExactStationForcesSpec : ChangeSpec := { name := "fnExactStationForces", fn := fun _ => fun
  | [d1, d2, d3, d4, d5, d6] => { results := [.lit (.bool true)], args := [d1, d2, d3, d4, d5, d6] }
  | _ => none }
def fnExactStationForcesRow : OpenClaim := { program := "ytigfonnlhiedhaa", sum := "701743bede0699c12aab53a189024491efe896fdff92142fcecf5f2300972bef", func := "loop.example/g01256/laws.FnExactStationForces", spec := "fnExactStationForces", inPlace := ["math.archFloor", "math.Float64bits", "math.Float64frombits", "math.archTrunc"], unfollowed := true, recurses := true, apart := false }
def FnExactStationForcesSaid : Prop := fnExactStationForcesRow.holds Try.pinned (OpenSpec.ofChange fnExactStationForcesSpec)

/-- ITS FALSE NEIGHBOUR: 'it returns false'. Refute it at one input. -/
def fnExactStationForcesWrong : ChangeSpec := { name := "fnExactStationForces", fn := fun _ => fun
  | [d1, d2, d3, d4, d5, d6] => { results := [.lit (.bool false)], args := [d1, d2, d3, d4, d5, d6] }
  | _ => none }
def FnExactStationForcesWrongFalsely : Prop := fnExactStationForcesRow.holds Try.pinned (OpenSpec.ofChange fnExactStationForcesWrong)

/- THE SECOND FORM. 'bulk': how many values and letters a reading holds, each counted each time it is reached (what is shared counts as often as it is met; a slice's spare places count too). A statement '..UptoSaid' is the law's where the arguments, and the package variables that the reading takes, are together of bulk at most 1048576: NARROWER than '..Said'. Prove '..Said' where nothing that the law and all that it calls make is longer than what came in: it says more and counts as full. Else prove '..UptoSaid'. A law counts once. -/
mutual
def uptoBulk {H : Type} : DataW H → Nat
  | .lit (.string bytes) => bytes.length + 1
  | .lit _ => 1
  | .nil => 1
  | .ptr d => uptoBulk d + 1
  | .slice elems spare => uptoBulkAll elems + uptoBulkAll spare + 1
  | .agg parts => uptoBulkAll parts + 1
  | .iface _ d => uptoBulk d + 1
  | .map entries => uptoBulkEntries entries + 1
  | .held _ => 1
def uptoBulkAll {H : Type} : List (DataW H) → Nat
  | [] => 0
  | d :: r => uptoBulk d + uptoBulkAll r
def uptoBulkEntries {H : Type} : List (Lit × DataW H) → Nat
  | [] => 0
  | x :: r => uptoBulkEntry x + uptoBulkEntries r
def uptoBulkEntry {H : Type} : Lit × DataW H → Nat
  | (.string bytes, d) => bytes.length + uptoBulk d + 1
  | (_, d) => uptoBulk d + 1
 end
def uptoSmall : (H : Type) → List (DataW H) → Bool := fun _ ds => decide (uptoBulkAll ds ≤ 1048576)
def OpenSpec.upto (s : _root_.Go.ChangeSpec) : _root_.Go.OpenSpec := { _root_.Go.OpenSpec.ofChange s with cond := some uptoSmall }

/-- 'laws.FnExactValidRotor', WHERE WHAT IT READS IS OF BULK AT MOST 1048576: true; the input reads as it did. -/
def fnExactValidRotorUptoRow : OpenClaim := { program := "ytigfonnlhiedhaa", sum := "701743bede0699c12aab53a189024491efe896fdff92142fcecf5f2300972bef", func := "loop.example/g01256/laws.FnExactValidRotor", spec := "fnExactValidRotor", inPlace := ["math.Float64bits", "math.Float64frombits"], unfollowed := true, recurses := true, apart := false, narrowed := true }
def FnExactValidRotorUptoSaid : Prop := fnExactValidRotorUptoRow.holds Try.pinned (OpenSpec.upto fnExactValidRotorSpec)

/-- 'laws.FnExactSolidityAt', WHERE WHAT IT READS IS OF BULK AT MOST 1048576: true; the input reads as it did. -/
def fnExactSolidityAtUptoRow : OpenClaim := { program := "ytigfonnlhiedhaa", sum := "701743bede0699c12aab53a189024491efe896fdff92142fcecf5f2300972bef", func := "loop.example/g01256/laws.FnExactSolidityAt", spec := "fnExactSolidityAt", inPlace := ["math.Float64bits", "math.Float64frombits"], unfollowed := true, recurses := true, apart := false, narrowed := true }
def FnExactSolidityAtUptoSaid : Prop := fnExactSolidityAtUptoRow.holds Try.pinned (OpenSpec.upto fnExactSolidityAtSpec)

/-- 'laws.FnExactTipShareAt', WHERE WHAT IT READS IS OF BULK AT MOST 1048576: true; the input reads as it did. -/
def fnExactTipShareAtUptoRow : OpenClaim := { program := "ytigfonnlhiedhaa", sum := "701743bede0699c12aab53a189024491efe896fdff92142fcecf5f2300972bef", func := "loop.example/g01256/laws.FnExactTipShareAt", spec := "fnExactTipShareAt", inPlace := ["math.Float64frombits", "math.Float64bits"], unfollowed := true, recurses := true, apart := false, narrowed := true }
def FnExactTipShareAtUptoSaid : Prop := fnExactTipShareAtUptoRow.holds Try.pinned (OpenSpec.upto fnExactTipShareAtSpec)

/-- 'laws.FnExactWindThrough', WHERE WHAT IT READS IS OF BULK AT MOST 1048576: true; the input reads as it did. -/
def fnExactWindThroughUptoRow : OpenClaim := { program := "ytigfonnlhiedhaa", sum := "701743bede0699c12aab53a189024491efe896fdff92142fcecf5f2300972bef", func := "loop.example/g01256/laws.FnExactWindThrough", spec := "fnExactWindThrough", inPlace := ["math.Float64bits", "math.Float64frombits"], unfollowed := true, recurses := true, apart := false, narrowed := true }
def FnExactWindThroughUptoSaid : Prop := fnExactWindThroughUptoRow.holds Try.pinned (OpenSpec.upto fnExactWindThroughSpec)

/-- 'laws.FnExactTipRatio', WHERE WHAT IT READS IS OF BULK AT MOST 1048576: true; the input reads as it did. -/
def fnExactTipRatioUptoRow : OpenClaim := { program := "ytigfonnlhiedhaa", sum := "701743bede0699c12aab53a189024491efe896fdff92142fcecf5f2300972bef", func := "loop.example/g01256/laws.FnExactTipRatio", spec := "fnExactTipRatio", inPlace := ["math.Float64bits", "math.Float64frombits"], unfollowed := true, recurses := true, apart := false, narrowed := true }
def FnExactTipRatioUptoSaid : Prop := fnExactTipRatioUptoRow.holds Try.pinned (OpenSpec.upto fnExactTipRatioSpec)

/-- 'laws.FnExactPushesAt', WHERE WHAT IT READS IS OF BULK AT MOST 1048576: true; the input reads as it did. -/
def fnExactPushesAtUptoRow : OpenClaim := { program := "ytigfonnlhiedhaa", sum := "701743bede0699c12aab53a189024491efe896fdff92142fcecf5f2300972bef", func := "loop.example/g01256/laws.FnExactPushesAt", spec := "fnExactPushesAt", inPlace := ["math.archFloor", "math.Float64bits", "math.Float64frombits", "math.archTrunc"], unfollowed := true, recurses := true, apart := false, narrowed := true }
def FnExactPushesAtUptoSaid : Prop := fnExactPushesAtUptoRow.holds Try.pinned (OpenSpec.upto fnExactPushesAtSpec)

/-- 'laws.FnExactBalanceOf', WHERE WHAT IT READS IS OF BULK AT MOST 1048576: true; the input reads as it did. -/
def fnExactBalanceOfUptoRow : OpenClaim := { program := "ytigfonnlhiedhaa", sum := "701743bede0699c12aab53a189024491efe896fdff92142fcecf5f2300972bef", func := "loop.example/g01256/laws.FnExactBalanceOf", spec := "fnExactBalanceOf", inPlace := ["math.archFloor", "math.Float64bits", "math.Float64frombits", "math.archTrunc"], unfollowed := true, recurses := true, apart := false, narrowed := true }
def FnExactBalanceOfUptoSaid : Prop := fnExactBalanceOfUptoRow.holds Try.pinned (OpenSpec.upto fnExactBalanceOfSpec)

/-- 'laws.FnExactFlowAt', WHERE WHAT IT READS IS OF BULK AT MOST 1048576: true; the input reads as it did. -/
def fnExactFlowAtUptoRow : OpenClaim := { program := "ytigfonnlhiedhaa", sum := "701743bede0699c12aab53a189024491efe896fdff92142fcecf5f2300972bef", func := "loop.example/g01256/laws.FnExactFlowAt", spec := "fnExactFlowAt", inPlace := ["math.archFloor", "math.Float64bits", "math.Float64frombits", "math.archTrunc"], unfollowed := true, recurses := true, apart := false, narrowed := true }
def FnExactFlowAtUptoSaid : Prop := fnExactFlowAtUptoRow.holds Try.pinned (OpenSpec.upto fnExactFlowAtSpec)

/-- 'laws.FnExactInductionAt', WHERE WHAT IT READS IS OF BULK AT MOST 1048576: true; the input reads as it did. -/
def fnExactInductionAtUptoRow : OpenClaim := { program := "ytigfonnlhiedhaa", sum := "701743bede0699c12aab53a189024491efe896fdff92142fcecf5f2300972bef", func := "loop.example/g01256/laws.FnExactInductionAt", spec := "fnExactInductionAt", inPlace := ["math.archFloor", "math.Float64bits", "math.Float64frombits", "math.archTrunc"], unfollowed := true, recurses := true, apart := false, narrowed := true }
def FnExactInductionAtUptoSaid : Prop := fnExactInductionAtUptoRow.holds Try.pinned (OpenSpec.upto fnExactInductionAtSpec)

/-- 'laws.FnExactStationForces', WHERE WHAT IT READS IS OF BULK AT MOST 1048576: true; the input reads as it did. -/
def fnExactStationForcesUptoRow : OpenClaim := { program := "ytigfonnlhiedhaa", sum := "701743bede0699c12aab53a189024491efe896fdff92142fcecf5f2300972bef", func := "loop.example/g01256/laws.FnExactStationForces", spec := "fnExactStationForces", inPlace := ["math.archFloor", "math.Float64bits", "math.Float64frombits", "math.archTrunc"], unfollowed := true, recurses := true, apart := false, narrowed := true }
def FnExactStationForcesUptoSaid : Prop := fnExactStationForcesUptoRow.holds Try.pinned (OpenSpec.upto fnExactStationForcesSpec)

end Rows
end Go.Proofs.Ytigfonnlhiedhaa
