/-
  No cell of these rows narrows 'for every input' (looked for: loops, veiled, ifaces, maps, wideKeys, modest, calm, conditions, laid).
  DERIVED. THE GIVEN ROWS OF THIS SEAT. 11 by the template 'for every input the law returns true; each argument reads behind the call as it read before'; 0 by the template 'total and deterministic' (their statements: YtpchkedgjikpfabTotals.lean).
  GIVEN WITH THE SEED: the statements are not yours to turn. If you find one false, say at which input.
  Laid BY PROGRAM, IN A SANDBOX (cutbox-rows.mjs): the forced cells as the released guide's own fill.sh prints them over the translation 1b829be0b0d4d720… (all of the seat's roots in one cut). By AI agents, Wed Nov 11 2026. No macro, syntax, notation, axiom, sorry.
-/
import Derived.Test.YtpchkedgjikpfabChecked
import GoSem.Claim
import GoSem.ClaimJoined
import GoSem.ClaimMapViews
import Derived.JoinedTies
import Derived.KernelRfl
namespace Go.Proofs.Ytpchkedgjikpfab
/- THE CELL 'sum', in the pinned program and in every row, IS THE sha256 OF THE DUMP (.gsa) THAT YtpchkedgjikpfabProg.lean LOADS. Nothing in Lean hashes anything: it is a label: what it is worth is what the hold of that sum in a sandbox is worth. -/
noncomputable def Try.pinned : Pinned := { name := "ytpchkedgjikpfab", sum := "1b829be0b0d4d720c2b8d30f5ebb2135010aa8909a7a85092af2f37f52ade1d6", checked := Try.checked }
namespace Rows
def none {H : Type} : Left H := { results := [], args := [] }

/-- 'laws.FnExactAreCycles': WHATEVER THE INPUT: true; the input reads as it did. -/
def fnExactAreCyclesSpec : ChangeSpec := { name := "fnExactAreCycles", fn := fun _ => fun
  | [d] => { results := [.lit (.bool true)], args := [d] }
  | _ => none }
def fnExactAreCyclesRow : OpenClaim := { program := "ytpchkedgjikpfab", sum := "1b829be0b0d4d720c2b8d30f5ebb2135010aa8909a7a85092af2f37f52ade1d6", func := "loop.example/g01256/laws.FnExactAreCycles", spec := "fnExactAreCycles", inPlace := ["math.Float64bits", "math.Float64frombits"], unfollowed := true, recurses := true, apart := false }
def FnExactAreCyclesSaid : Prop := fnExactAreCyclesRow.holds Try.pinned (OpenSpec.ofChange fnExactAreCyclesSpec)

/-- ITS FALSE NEIGHBOUR: 'it returns false'. Refute it at one input. -/
def fnExactAreCyclesWrong : ChangeSpec := { name := "fnExactAreCycles", fn := fun _ => fun
  | [d] => { results := [.lit (.bool false)], args := [d] }
  | _ => none }
def FnExactAreCyclesWrongFalsely : Prop := fnExactAreCyclesRow.holds Try.pinned (OpenSpec.ofChange fnExactAreCyclesWrong)

/-- 'laws.FnExactSameCycles': WHATEVER THE INPUT: true; the input reads as it did. -/
def fnExactSameCyclesSpec : ChangeSpec := { name := "fnExactSameCycles", fn := fun _ => fun
  | [d1, d2] => { results := [.lit (.bool true)], args := [d1, d2] }
  | _ => none }
def fnExactSameCyclesRow : OpenClaim := { program := "ytpchkedgjikpfab", sum := "1b829be0b0d4d720c2b8d30f5ebb2135010aa8909a7a85092af2f37f52ade1d6", func := "loop.example/g01256/laws.FnExactSameCycles", spec := "fnExactSameCycles", inPlace := ["math.Float32bits"], unfollowed := true, recurses := true, apart := false }
def FnExactSameCyclesSaid : Prop := fnExactSameCyclesRow.holds Try.pinned (OpenSpec.ofChange fnExactSameCyclesSpec)

/-- ITS FALSE NEIGHBOUR: 'it returns false'. Refute it at one input. -/
def fnExactSameCyclesWrong : ChangeSpec := { name := "fnExactSameCycles", fn := fun _ => fun
  | [d1, d2] => { results := [.lit (.bool false)], args := [d1, d2] }
  | _ => none }
def FnExactSameCyclesWrongFalsely : Prop := fnExactSameCyclesRow.holds Try.pinned (OpenSpec.ofChange fnExactSameCyclesWrong)

/-- 'laws.FnExactCountCycles': WHATEVER THE INPUT: true; the input reads as it did. -/
def fnExactCountCyclesSpec : ChangeSpec := { name := "fnExactCountCycles", fn := fun _ => fun
  | [d1, d2, d3] => { results := [.lit (.bool true)], args := [d1, d2, d3] }
  | _ => none }
def fnExactCountCyclesRow : OpenClaim := { program := "ytpchkedgjikpfab", sum := "1b829be0b0d4d720c2b8d30f5ebb2135010aa8909a7a85092af2f37f52ade1d6", func := "loop.example/g01256/laws.FnExactCountCycles", spec := "fnExactCountCycles", inPlace := ["math.Float64bits", "math.Float64frombits"], unfollowed := true, recurses := true, apart := false }
def FnExactCountCyclesSaid : Prop := fnExactCountCyclesRow.holds Try.pinned (OpenSpec.ofChange fnExactCountCyclesSpec)

/-- ITS FALSE NEIGHBOUR: 'it returns false'. Refute it at one input. -/
def fnExactCountCyclesWrong : ChangeSpec := { name := "fnExactCountCycles", fn := fun _ => fun
  | [d1, d2, d3] => { results := [.lit (.bool false)], args := [d1, d2, d3] }
  | _ => none }
def FnExactCountCyclesWrongFalsely : Prop := fnExactCountCyclesRow.holds Try.pinned (OpenSpec.ofChange fnExactCountCyclesWrong)

/-- 'laws.FnExactLongestCycle': WHATEVER THE INPUT: true; the input reads as it did. -/
def fnExactLongestCycleSpec : ChangeSpec := { name := "fnExactLongestCycle", fn := fun _ => fun
  | [d] => { results := [.lit (.bool true)], args := [d] }
  | _ => none }
def fnExactLongestCycleRow : OpenClaim := { program := "ytpchkedgjikpfab", sum := "1b829be0b0d4d720c2b8d30f5ebb2135010aa8909a7a85092af2f37f52ade1d6", func := "loop.example/g01256/laws.FnExactLongestCycle", spec := "fnExactLongestCycle", inPlace := ["math.Float64bits", "math.Float64frombits"], unfollowed := true, recurses := true, apart := false }
def FnExactLongestCycleSaid : Prop := fnExactLongestCycleRow.holds Try.pinned (OpenSpec.ofChange fnExactLongestCycleSpec)

/-- ITS FALSE NEIGHBOUR: 'it returns false'. Refute it at one input. -/
def fnExactLongestCycleWrong : ChangeSpec := { name := "fnExactLongestCycle", fn := fun _ => fun
  | [d] => { results := [.lit (.bool false)], args := [d] }
  | _ => none }
def FnExactLongestCycleWrongFalsely : Prop := fnExactLongestCycleRow.holds Try.pinned (OpenSpec.ofChange fnExactLongestCycleWrong)

/-- 'laws.FnExactDamageOf': WHATEVER THE INPUT: true; the input reads as it did. -/
def fnExactDamageOfSpec : ChangeSpec := { name := "fnExactDamageOf", fn := fun _ => fun
  | [d1, d2, d3] => { results := [.lit (.bool true)], args := [d1, d2, d3] }
  | _ => none }
def fnExactDamageOfRow : OpenClaim := { program := "ytpchkedgjikpfab", sum := "1b829be0b0d4d720c2b8d30f5ebb2135010aa8909a7a85092af2f37f52ade1d6", func := "loop.example/g01256/laws.FnExactDamageOf", spec := "fnExactDamageOf", inPlace := ["math.Float64bits", "math.Float64frombits"], unfollowed := true, recurses := true, apart := false }
def FnExactDamageOfSaid : Prop := fnExactDamageOfRow.holds Try.pinned (OpenSpec.ofChange fnExactDamageOfSpec)

/-- ITS FALSE NEIGHBOUR: 'it returns false'. Refute it at one input. -/
def fnExactDamageOfWrong : ChangeSpec := { name := "fnExactDamageOf", fn := fun _ => fun
  | [d1, d2, d3] => { results := [.lit (.bool false)], args := [d1, d2, d3] }
  | _ => none }
def FnExactDamageOfWrongFalsely : Prop := fnExactDamageOfRow.holds Try.pinned (OpenSpec.ofChange fnExactDamageOfWrong)

/-- 'laws.FnExactEqualRange': WHATEVER THE INPUT: true; the input reads as it did. -/
def fnExactEqualRangeSpec : ChangeSpec := { name := "fnExactEqualRange", fn := fun _ => fun
  | [d1, d2, d3] => { results := [.lit (.bool true)], args := [d1, d2, d3] }
  | _ => none }
def fnExactEqualRangeRow : OpenClaim := { program := "ytpchkedgjikpfab", sum := "1b829be0b0d4d720c2b8d30f5ebb2135010aa8909a7a85092af2f37f52ade1d6", func := "loop.example/g01256/laws.FnExactEqualRange", spec := "fnExactEqualRange", inPlace := ["math.sqrt", "math.Float64bits", "math.Float64frombits"], unfollowed := true, recurses := true, apart := false }
def FnExactEqualRangeSaid : Prop := fnExactEqualRangeRow.holds Try.pinned (OpenSpec.ofChange fnExactEqualRangeSpec)

/-- ITS FALSE NEIGHBOUR: 'it returns false'. Refute it at one input. -/
def fnExactEqualRangeWrong : ChangeSpec := { name := "fnExactEqualRange", fn := fun _ => fun
  | [d1, d2, d3] => { results := [.lit (.bool false)], args := [d1, d2, d3] }
  | _ => none }
def FnExactEqualRangeWrongFalsely : Prop := fnExactEqualRangeRow.holds Try.pinned (OpenSpec.ofChange fnExactEqualRangeWrong)

/-- 'laws.FnExactCyclesOf': WHATEVER THE INPUT: true; the input reads as it did. -/
def fnExactCyclesOfSpec : ChangeSpec := { name := "fnExactCyclesOf", fn := fun _ => fun
  | [d] => { results := [.lit (.bool true)], args := [d] }
  | _ => none }
def fnExactCyclesOfRow : OpenClaim := { program := "ytpchkedgjikpfab", sum := "1b829be0b0d4d720c2b8d30f5ebb2135010aa8909a7a85092af2f37f52ade1d6", func := "loop.example/g01256/laws.FnExactCyclesOf", spec := "fnExactCyclesOf", inPlace := ["math.Float64bits", "math.Float64frombits"], unfollowed := true, recurses := true, apart := false }
def FnExactCyclesOfSaid : Prop := fnExactCyclesOfRow.holds Try.pinned (OpenSpec.ofChange fnExactCyclesOfSpec)

/-- ITS FALSE NEIGHBOUR: 'it returns false'. Refute it at one input. -/
def fnExactCyclesOfWrong : ChangeSpec := { name := "fnExactCyclesOf", fn := fun _ => fun
  | [d] => { results := [.lit (.bool false)], args := [d] }
  | _ => none }
def FnExactCyclesOfWrongFalsely : Prop := fnExactCyclesOfRow.holds Try.pinned (OpenSpec.ofChange fnExactCyclesOfWrong)

/-- 'laws.FnExactAnswerOf': WHATEVER THE INPUT: true; the input reads as it did. -/
def fnExactAnswerOfSpec : ChangeSpec := { name := "fnExactAnswerOf", fn := fun _ => fun
  | [d1, d2] => { results := [.lit (.bool true)], args := [d1, d2] }
  | _ => none }
def fnExactAnswerOfRow : OpenClaim := { program := "ytpchkedgjikpfab", sum := "1b829be0b0d4d720c2b8d30f5ebb2135010aa8909a7a85092af2f37f52ade1d6", func := "loop.example/g01256/laws.FnExactAnswerOf", spec := "fnExactAnswerOf", inPlace := ["math.Float64bits", "math.Float64frombits"], apart := false }
def FnExactAnswerOfSaid : Prop := fnExactAnswerOfRow.holds Try.pinned (OpenSpec.ofChange fnExactAnswerOfSpec)

/-- ITS FALSE NEIGHBOUR: 'it returns false'. Refute it at one input. -/
def fnExactAnswerOfWrong : ChangeSpec := { name := "fnExactAnswerOf", fn := fun _ => fun
  | [d1, d2] => { results := [.lit (.bool false)], args := [d1, d2] }
  | _ => none }
def FnExactAnswerOfWrongFalsely : Prop := fnExactAnswerOfRow.holds Try.pinned (OpenSpec.ofChange fnExactAnswerOfWrong)

/-- 'laws.FnExactGainOf': WHATEVER THE INPUT: true; the input reads as it did. -/
def fnExactGainOfSpec : ChangeSpec := { name := "fnExactGainOf", fn := fun _ => fun
  | [d1, d2] => { results := [.lit (.bool true)], args := [d1, d2] }
  | _ => none }
def fnExactGainOfRow : OpenClaim := { program := "ytpchkedgjikpfab", sum := "1b829be0b0d4d720c2b8d30f5ebb2135010aa8909a7a85092af2f37f52ade1d6", func := "loop.example/g01256/laws.FnExactGainOf", spec := "fnExactGainOf", inPlace := ["math.sqrt", "math.Float64bits", "math.Float64frombits"], apart := false }
def FnExactGainOfSaid : Prop := fnExactGainOfRow.holds Try.pinned (OpenSpec.ofChange fnExactGainOfSpec)

/-- ITS FALSE NEIGHBOUR: 'it returns false'. Refute it at one input. -/
def fnExactGainOfWrong : ChangeSpec := { name := "fnExactGainOf", fn := fun _ => fun
  | [d1, d2] => { results := [.lit (.bool false)], args := [d1, d2] }
  | _ => none }
def FnExactGainOfWrongFalsely : Prop := fnExactGainOfRow.holds Try.pinned (OpenSpec.ofChange fnExactGainOfWrong)

/-- 'laws.FnExactSpectrumOfLoads': WHATEVER THE INPUT: true; the input reads as it did. -/
def fnExactSpectrumOfLoadsSpec : ChangeSpec := { name := "fnExactSpectrumOfLoads", fn := fun _ => fun
  | [d] => { results := [.lit (.bool true)], args := [d] }
  | _ => none }
def fnExactSpectrumOfLoadsRow : OpenClaim := { program := "ytpchkedgjikpfab", sum := "1b829be0b0d4d720c2b8d30f5ebb2135010aa8909a7a85092af2f37f52ade1d6", func := "loop.example/g01256/laws.FnExactSpectrumOfLoads", spec := "fnExactSpectrumOfLoads", inPlace := ["math.Float32frombits", "math.Float64frombits", "math.Float64bits"], unfollowed := true, recurses := true, apart := false }
def FnExactSpectrumOfLoadsSaid : Prop := fnExactSpectrumOfLoadsRow.holds Try.pinned (OpenSpec.ofChange fnExactSpectrumOfLoadsSpec)

/-- ITS FALSE NEIGHBOUR: 'it returns false'. Refute it at one input. -/
def fnExactSpectrumOfLoadsWrong : ChangeSpec := { name := "fnExactSpectrumOfLoads", fn := fun _ => fun
  | [d] => { results := [.lit (.bool false)], args := [d] }
  | _ => none }
def FnExactSpectrumOfLoadsWrongFalsely : Prop := fnExactSpectrumOfLoadsRow.holds Try.pinned (OpenSpec.ofChange fnExactSpectrumOfLoadsWrong)

/-- 'laws.FnExactPowersOfLoads': WHATEVER THE INPUT: true; the input reads as it did. -/
def fnExactPowersOfLoadsSpec : ChangeSpec := { name := "fnExactPowersOfLoads", fn := fun _ => fun
  | [d] => { results := [.lit (.bool true)], args := [d] }
  | _ => none }
def fnExactPowersOfLoadsRow : OpenClaim := { program := "ytpchkedgjikpfab", sum := "1b829be0b0d4d720c2b8d30f5ebb2135010aa8909a7a85092af2f37f52ade1d6", func := "loop.example/g01256/laws.FnExactPowersOfLoads", spec := "fnExactPowersOfLoads", inPlace := ["math.Float32frombits", "math.Float64frombits", "math.Float64bits"], unfollowed := true, recurses := true, apart := false }
def FnExactPowersOfLoadsSaid : Prop := fnExactPowersOfLoadsRow.holds Try.pinned (OpenSpec.ofChange fnExactPowersOfLoadsSpec)

/-- ITS FALSE NEIGHBOUR: 'it returns false'. Refute it at one input. -/
def fnExactPowersOfLoadsWrong : ChangeSpec := { name := "fnExactPowersOfLoads", fn := fun _ => fun
  | [d] => { results := [.lit (.bool false)], args := [d] }
  | _ => none }
def FnExactPowersOfLoadsWrongFalsely : Prop := fnExactPowersOfLoadsRow.holds Try.pinned (OpenSpec.ofChange fnExactPowersOfLoadsWrong)

/- THE SECOND FORM. 'bulk': how many values and letters a reading holds, each counted each time it is reached (what is shared counts as often as it is met; a slice's spare places count too). A statement '..UptoSaid' is the law's where the arguments, and the package variables that the reading takes, are together of bulk at most 1048576: NARROWER than '..Said'. Prove '..Said' where nothing that the law and all that it calls make is longer than what came in: it says more and counts as full. Else prove '..UptoSaid'. A law counts once. -/
mutual
def uptoBulk {H : Type} : DataW H → Nat
  | .lit (.string bytes) => bytes.length + 1
  | .lit _ => 1
  | .nil => 1
  | .ptr d => uptoBulk d + 1
  | .slice elems spare => uptoBulkAll elems + uptoBulkAll spare + 1
  | .agg parts => uptoBulkAll parts + 1
  | .iface _ d => uptoBulk d + 1
  | .map entries => uptoBulkEntries entries + 1
  | .held _ => 1
def uptoBulkAll {H : Type} : List (DataW H) → Nat
  | [] => 0
  | d :: r => uptoBulk d + uptoBulkAll r
def uptoBulkEntries {H : Type} : List (Lit × DataW H) → Nat
  | [] => 0
  | x :: r => uptoBulkEntry x + uptoBulkEntries r
def uptoBulkEntry {H : Type} : Lit × DataW H → Nat
  | (.string bytes, d) => bytes.length + uptoBulk d + 1
  | (_, d) => uptoBulk d + 1
 end
def uptoSmall : (H : Type) → List (DataW H) → Bool := fun _ ds => decide (uptoBulkAll ds ≤ 1048576)
def OpenSpec.upto (s : _root_.Go.ChangeSpec) : _root_.Go.OpenSpec := { _root_.Go.OpenSpec.ofChange s with cond := some uptoSmall }

/-- 'laws.FnExactAreCycles', WHERE WHAT IT READS IS OF BULK AT MOST 1048576: true; the input reads as it did. -/
def fnExactAreCyclesUptoRow : OpenClaim := { program := "ytpchkedgjikpfab", sum := "1b829be0b0d4d720c2b8d30f5ebb2135010aa8909a7a85092af2f37f52ade1d6", func := "loop.example/g01256/laws.FnExactAreCycles", spec := "fnExactAreCycles", inPlace := ["math.Float64bits", "math.Float64frombits"], unfollowed := true, recurses := true, apart := false, narrowed := true }
def FnExactAreCyclesUptoSaid : Prop := fnExactAreCyclesUptoRow.holds Try.pinned (OpenSpec.upto fnExactAreCyclesSpec)

/-- 'laws.FnExactSameCycles', WHERE WHAT IT READS IS OF BULK AT MOST 1048576: true; the input reads as it did. -/
def fnExactSameCyclesUptoRow : OpenClaim := { program := "ytpchkedgjikpfab", sum := "1b829be0b0d4d720c2b8d30f5ebb2135010aa8909a7a85092af2f37f52ade1d6", func := "loop.example/g01256/laws.FnExactSameCycles", spec := "fnExactSameCycles", inPlace := ["math.Float32bits"], unfollowed := true, recurses := true, apart := false, narrowed := true }
def FnExactSameCyclesUptoSaid : Prop := fnExactSameCyclesUptoRow.holds Try.pinned (OpenSpec.upto fnExactSameCyclesSpec)

/-- 'laws.FnExactCountCycles', WHERE WHAT IT READS IS OF BULK AT MOST 1048576: true; the input reads as it did. -/
def fnExactCountCyclesUptoRow : OpenClaim := { program := "ytpchkedgjikpfab", sum := "1b829be0b0d4d720c2b8d30f5ebb2135010aa8909a7a85092af2f37f52ade1d6", func := "loop.example/g01256/laws.FnExactCountCycles", spec := "fnExactCountCycles", inPlace := ["math.Float64bits", "math.Float64frombits"], unfollowed := true, recurses := true, apart := false, narrowed := true }
def FnExactCountCyclesUptoSaid : Prop := fnExactCountCyclesUptoRow.holds Try.pinned (OpenSpec.upto fnExactCountCyclesSpec)

/-- 'laws.FnExactLongestCycle', WHERE WHAT IT READS IS OF BULK AT MOST 1048576: true; the input reads as it did. -/
def fnExactLongestCycleUptoRow : OpenClaim := { program := "ytpchkedgjikpfab", sum := "1b829be0b0d4d720c2b8d30f5ebb2135010aa8909a7a85092af2f37f52ade1d6", func := "loop.example/g01256/laws.FnExactLongestCycle", spec := "fnExactLongestCycle", inPlace := ["math.Float64bits", "math.Float64frombits"], unfollowed := true, recurses := true, apart := false, narrowed := true }
def FnExactLongestCycleUptoSaid : Prop := fnExactLongestCycleUptoRow.holds Try.pinned (OpenSpec.upto fnExactLongestCycleSpec)

/-- 'laws.FnExactDamageOf', WHERE WHAT IT READS IS OF BULK AT MOST 1048576: true; the input reads as it did. -/
def fnExactDamageOfUptoRow : OpenClaim := { program := "ytpchkedgjikpfab", sum := "1b829be0b0d4d720c2b8d30f5ebb2135010aa8909a7a85092af2f37f52ade1d6", func := "loop.example/g01256/laws.FnExactDamageOf", spec := "fnExactDamageOf", inPlace := ["math.Float64bits", "math.Float64frombits"], unfollowed := true, recurses := true, apart := false, narrowed := true }
def FnExactDamageOfUptoSaid : Prop := fnExactDamageOfUptoRow.holds Try.pinned (OpenSpec.upto fnExactDamageOfSpec)

/-- 'laws.FnExactEqualRange', WHERE WHAT IT READS IS OF BULK AT MOST 1048576: true; the input reads as it did. -/
def fnExactEqualRangeUptoRow : OpenClaim := { program := "ytpchkedgjikpfab", sum := "1b829be0b0d4d720c2b8d30f5ebb2135010aa8909a7a85092af2f37f52ade1d6", func := "loop.example/g01256/laws.FnExactEqualRange", spec := "fnExactEqualRange", inPlace := ["math.sqrt", "math.Float64bits", "math.Float64frombits"], unfollowed := true, recurses := true, apart := false, narrowed := true }
def FnExactEqualRangeUptoSaid : Prop := fnExactEqualRangeUptoRow.holds Try.pinned (OpenSpec.upto fnExactEqualRangeSpec)

/-- 'laws.FnExactCyclesOf', WHERE WHAT IT READS IS OF BULK AT MOST 1048576: true; the input reads as it did. -/
def fnExactCyclesOfUptoRow : OpenClaim := { program := "ytpchkedgjikpfab", sum := "1b829be0b0d4d720c2b8d30f5ebb2135010aa8909a7a85092af2f37f52ade1d6", func := "loop.example/g01256/laws.FnExactCyclesOf", spec := "fnExactCyclesOf", inPlace := ["math.Float64bits", "math.Float64frombits"], unfollowed := true, recurses := true, apart := false, narrowed := true }
def FnExactCyclesOfUptoSaid : Prop := fnExactCyclesOfUptoRow.holds Try.pinned (OpenSpec.upto fnExactCyclesOfSpec)

/-- 'laws.FnExactAnswerOf', WHERE WHAT IT READS IS OF BULK AT MOST 1048576: true; the input reads as it did. -/
def fnExactAnswerOfUptoRow : OpenClaim := { program := "ytpchkedgjikpfab", sum := "1b829be0b0d4d720c2b8d30f5ebb2135010aa8909a7a85092af2f37f52ade1d6", func := "loop.example/g01256/laws.FnExactAnswerOf", spec := "fnExactAnswerOf", inPlace := ["math.Float64bits", "math.Float64frombits"], apart := false, narrowed := true }
def FnExactAnswerOfUptoSaid : Prop := fnExactAnswerOfUptoRow.holds Try.pinned (OpenSpec.upto fnExactAnswerOfSpec)

/-- 'laws.FnExactGainOf', WHERE WHAT IT READS IS OF BULK AT MOST 1048576: true; the input reads as it did. -/
def fnExactGainOfUptoRow : OpenClaim := { program := "ytpchkedgjikpfab", sum := "1b829be0b0d4d720c2b8d30f5ebb2135010aa8909a7a85092af2f37f52ade1d6", func := "loop.example/g01256/laws.FnExactGainOf", spec := "fnExactGainOf", inPlace := ["math.sqrt", "math.Float64bits", "math.Float64frombits"], apart := false, narrowed := true }
def FnExactGainOfUptoSaid : Prop := fnExactGainOfUptoRow.holds Try.pinned (OpenSpec.upto fnExactGainOfSpec)

/-- 'laws.FnExactSpectrumOfLoads', WHERE WHAT IT READS IS OF BULK AT MOST 1048576: true; the input reads as it did. -/
def fnExactSpectrumOfLoadsUptoRow : OpenClaim := { program := "ytpchkedgjikpfab", sum := "1b829be0b0d4d720c2b8d30f5ebb2135010aa8909a7a85092af2f37f52ade1d6", func := "loop.example/g01256/laws.FnExactSpectrumOfLoads", spec := "fnExactSpectrumOfLoads", inPlace := ["math.Float32frombits", "math.Float64frombits", "math.Float64bits"], unfollowed := true, recurses := true, apart := false, narrowed := true }
def FnExactSpectrumOfLoadsUptoSaid : Prop := fnExactSpectrumOfLoadsUptoRow.holds Try.pinned (OpenSpec.upto fnExactSpectrumOfLoadsSpec)

/-- 'laws.FnExactPowersOfLoads', WHERE WHAT IT READS IS OF BULK AT MOST 1048576: true; the input reads as it did. -/
def fnExactPowersOfLoadsUptoRow : OpenClaim := { program := "ytpchkedgjikpfab", sum := "1b829be0b0d4d720c2b8d30f5ebb2135010aa8909a7a85092af2f37f52ade1d6", func := "loop.example/g01256/laws.FnExactPowersOfLoads", spec := "fnExactPowersOfLoads", inPlace := ["math.Float32frombits", "math.Float64frombits", "math.Float64bits"], unfollowed := true, recurses := true, apart := false, narrowed := true }
def FnExactPowersOfLoadsUptoSaid : Prop := fnExactPowersOfLoadsUptoRow.holds Try.pinned (OpenSpec.upto fnExactPowersOfLoadsSpec)

end Rows
end Go.Proofs.Ytpchkedgjikpfab
