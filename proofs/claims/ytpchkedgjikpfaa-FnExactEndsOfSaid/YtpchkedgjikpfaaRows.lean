/-
  No cell of these rows narrows 'for every input' (looked for: loops, veiled, ifaces, maps, wideKeys, modest, calm, conditions, laid).
  DERIVED. THE GIVEN ROWS OF THIS SEAT. 12 by the template 'for every input the law returns true; each argument reads behind the call as it read before'; 0 by the template 'total and deterministic' (their statements: YtpchkedgjikpfaaTotals.lean).
  GIVEN WITH THE SEED: the statements are not yours to turn. If you find one false, say at which input.
  Laid BY PROGRAM, IN A SANDBOX (cutbox-rows.mjs): the forced cells as the released guide's own fill.sh prints them over the translation 826aadbf797f09bd… (all of the seat's roots in one cut). By AI agents, Wed Nov 11 2026. No macro, syntax, notation, axiom, sorry.
-/
import Derived.Test.YtpchkedgjikpfaaChecked
import GoSem.Claim
import GoSem.ClaimJoined
import GoSem.ClaimMapViews
import Derived.JoinedTies
import Derived.KernelRfl
namespace Go.Proofs.Ytpchkedgjikpfaa
/- THE CELL 'sum', in the pinned program and in every row, IS THE sha256 OF THE DUMP (.gsa) THAT YtpchkedgjikpfaaProg.lean LOADS. Nothing in Lean hashes anything: it is a label: what it is worth is what the hold of that sum in a sandbox is worth. -/
noncomputable def Try.pinned : Pinned := { name := "ytpchkedgjikpfaa", sum := "826aadbf797f09bd31eca48f85f3ac05af585f2f577095ed4e3cbf3738615b5a", checked := Try.checked }
namespace Rows
def none {H : Type} : Left H := { results := [], args := [] }

/-- 'laws.FnExactValidTower': WHATEVER THE INPUT: true; the input reads as it did. -/
def fnExactValidTowerSpec : ChangeSpec := { name := "fnExactValidTower", fn := fun _ => fun
  | [d] => { results := [.lit (.bool true)], args := [d] }
  | _ => none }
def fnExactValidTowerRow : OpenClaim := { program := "ytpchkedgjikpfaa", sum := "826aadbf797f09bd31eca48f85f3ac05af585f2f577095ed4e3cbf3738615b5a", func := "loop.example/g01256/laws.FnExactValidTower", spec := "fnExactValidTower", inPlace := ["math.Float64bits", "math.Float64frombits"], apart := false }
def FnExactValidTowerSaid : Prop := fnExactValidTowerRow.holds Try.pinned (OpenSpec.ofChange fnExactValidTowerSpec)

/-- ITS FALSE NEIGHBOUR: 'it returns false'. Refute it at one input. -/
def fnExactValidTowerWrong : ChangeSpec := { name := "fnExactValidTower", fn := fun _ => fun
  | [d] => { results := [.lit (.bool false)], args := [d] }
  | _ => none }
def FnExactValidTowerWrongFalsely : Prop := fnExactValidTowerRow.holds Try.pinned (OpenSpec.ofChange fnExactValidTowerWrong)

/-- 'laws.FnExactTowerRate': WHATEVER THE INPUT: true; the input reads as it did. -/
def fnExactTowerRateSpec : ChangeSpec := { name := "fnExactTowerRate", fn := fun _ => fun
  | [d] => { results := [.lit (.bool true)], args := [d] }
  | _ => none }
def fnExactTowerRateRow : OpenClaim := { program := "ytpchkedgjikpfaa", sum := "826aadbf797f09bd31eca48f85f3ac05af585f2f577095ed4e3cbf3738615b5a", func := "loop.example/g01256/laws.FnExactTowerRate", spec := "fnExactTowerRate", inPlace := ["math.sqrt", "math.Float64bits", "math.Float64frombits"], apart := false }
def FnExactTowerRateSaid : Prop := fnExactTowerRateRow.holds Try.pinned (OpenSpec.ofChange fnExactTowerRateSpec)

/-- ITS FALSE NEIGHBOUR: 'it returns false'. Refute it at one input. -/
def fnExactTowerRateWrong : ChangeSpec := { name := "fnExactTowerRate", fn := fun _ => fun
  | [d] => { results := [.lit (.bool false)], args := [d] }
  | _ => none }
def FnExactTowerRateWrongFalsely : Prop := fnExactTowerRateRow.holds Try.pinned (OpenSpec.ofChange fnExactTowerRateWrong)

/-- 'laws.FnExactStepTower': WHATEVER THE INPUT: true; the input reads as it did. -/
def fnExactStepTowerSpec : ChangeSpec := { name := "fnExactStepTower", fn := fun _ => fun
  | [d1, d2, d3, d4, d5] => { results := [.lit (.bool true)], args := [d1, d2, d3, d4, d5] }
  | _ => none }
def fnExactStepTowerRow : OpenClaim := { program := "ytpchkedgjikpfaa", sum := "826aadbf797f09bd31eca48f85f3ac05af585f2f577095ed4e3cbf3738615b5a", func := "loop.example/g01256/laws.FnExactStepTower", spec := "fnExactStepTower", inPlace := ["math.Float64bits", "math.Float64frombits"], apart := false }
def FnExactStepTowerSaid : Prop := fnExactStepTowerRow.holds Try.pinned (OpenSpec.ofChange fnExactStepTowerSpec)

/-- ITS FALSE NEIGHBOUR: 'it returns false'. Refute it at one input. -/
def fnExactStepTowerWrong : ChangeSpec := { name := "fnExactStepTower", fn := fun _ => fun
  | [d1, d2, d3, d4, d5] => { results := [.lit (.bool false)], args := [d1, d2, d3, d4, d5] }
  | _ => none }
def FnExactStepTowerWrongFalsely : Prop := fnExactStepTowerRow.holds Try.pinned (OpenSpec.ofChange fnExactStepTowerWrong)

/-- 'laws.FnExactEnergyOfTower': WHATEVER THE INPUT: true; the input reads as it did. -/
def fnExactEnergyOfTowerSpec : ChangeSpec := { name := "fnExactEnergyOfTower", fn := fun _ => fun
  | [d1, d2, d3] => { results := [.lit (.bool true)], args := [d1, d2, d3] }
  | _ => none }
def fnExactEnergyOfTowerRow : OpenClaim := { program := "ytpchkedgjikpfaa", sum := "826aadbf797f09bd31eca48f85f3ac05af585f2f577095ed4e3cbf3738615b5a", func := "loop.example/g01256/laws.FnExactEnergyOfTower", spec := "fnExactEnergyOfTower", inPlace := ["math.Float64bits", "math.Float64frombits"], apart := false }
def FnExactEnergyOfTowerSaid : Prop := fnExactEnergyOfTowerRow.holds Try.pinned (OpenSpec.ofChange fnExactEnergyOfTowerSpec)

/-- ITS FALSE NEIGHBOUR: 'it returns false'. Refute it at one input. -/
def fnExactEnergyOfTowerWrong : ChangeSpec := { name := "fnExactEnergyOfTower", fn := fun _ => fun
  | [d1, d2, d3] => { results := [.lit (.bool false)], args := [d1, d2, d3] }
  | _ => none }
def FnExactEnergyOfTowerWrongFalsely : Prop := fnExactEnergyOfTowerRow.holds Try.pinned (OpenSpec.ofChange fnExactEnergyOfTowerWrong)

/-- 'laws.FnExactRunTower': WHATEVER THE INPUT: true; the input reads as it did. -/
def fnExactRunTowerSpec : ChangeSpec := { name := "fnExactRunTower", fn := fun _ => fun
  | [d1, d2, d3, d4, d5] => { results := [.lit (.bool true)], args := [d1, d2, d3, d4, d5] }
  | _ => none }
def fnExactRunTowerRow : OpenClaim := { program := "ytpchkedgjikpfaa", sum := "826aadbf797f09bd31eca48f85f3ac05af585f2f577095ed4e3cbf3738615b5a", func := "loop.example/g01256/laws.FnExactRunTower", spec := "fnExactRunTower", inPlace := ["math.Float64bits", "math.Float64frombits"], apart := false }
def FnExactRunTowerSaid : Prop := fnExactRunTowerRow.holds Try.pinned (OpenSpec.ofChange fnExactRunTowerSpec)

/-- ITS FALSE NEIGHBOUR: 'it returns false'. Refute it at one input. -/
def fnExactRunTowerWrong : ChangeSpec := { name := "fnExactRunTower", fn := fun _ => fun
  | [d1, d2, d3, d4, d5] => { results := [.lit (.bool false)], args := [d1, d2, d3, d4, d5] }
  | _ => none }
def FnExactRunTowerWrongFalsely : Prop := fnExactRunTowerRow.holds Try.pinned (OpenSpec.ofChange fnExactRunTowerWrong)

/-- 'laws.FnExactMeanLoad': WHATEVER THE INPUT: true; the input reads as it did. -/
def fnExactMeanLoadSpec : ChangeSpec := { name := "fnExactMeanLoad", fn := fun _ => fun
  | [d] => { results := [.lit (.bool true)], args := [d] }
  | _ => none }
def fnExactMeanLoadRow : OpenClaim := { program := "ytpchkedgjikpfaa", sum := "826aadbf797f09bd31eca48f85f3ac05af585f2f577095ed4e3cbf3738615b5a", func := "loop.example/g01256/laws.FnExactMeanLoad", spec := "fnExactMeanLoad", inPlace := ["math.Float64bits", "math.Float64frombits"], unfollowed := true, recurses := true, apart := false }
def FnExactMeanLoadSaid : Prop := fnExactMeanLoadRow.holds Try.pinned (OpenSpec.ofChange fnExactMeanLoadSpec)

/-- ITS FALSE NEIGHBOUR: 'it returns false'. Refute it at one input. -/
def fnExactMeanLoadWrong : ChangeSpec := { name := "fnExactMeanLoad", fn := fun _ => fun
  | [d] => { results := [.lit (.bool false)], args := [d] }
  | _ => none }
def FnExactMeanLoadWrongFalsely : Prop := fnExactMeanLoadRow.holds Try.pinned (OpenSpec.ofChange fnExactMeanLoadWrong)

/-- 'laws.FnExactExceedOf': WHATEVER THE INPUT: true; the input reads as it did. -/
def fnExactExceedOfSpec : ChangeSpec := { name := "fnExactExceedOf", fn := fun _ => fun
  | [d1, d2] => { results := [.lit (.bool true)], args := [d1, d2] }
  | _ => none }
def fnExactExceedOfRow : OpenClaim := { program := "ytpchkedgjikpfaa", sum := "826aadbf797f09bd31eca48f85f3ac05af585f2f577095ed4e3cbf3738615b5a", func := "loop.example/g01256/laws.FnExactExceedOf", spec := "fnExactExceedOf", inPlace := ["math.Float64bits", "math.Float64frombits"], unfollowed := true, recurses := true, apart := false }
def FnExactExceedOfSaid : Prop := fnExactExceedOfRow.holds Try.pinned (OpenSpec.ofChange fnExactExceedOfSpec)

/-- ITS FALSE NEIGHBOUR: 'it returns false'. Refute it at one input. -/
def fnExactExceedOfWrong : ChangeSpec := { name := "fnExactExceedOf", fn := fun _ => fun
  | [d1, d2] => { results := [.lit (.bool false)], args := [d1, d2] }
  | _ => none }
def FnExactExceedOfWrongFalsely : Prop := fnExactExceedOfRow.holds Try.pinned (OpenSpec.ofChange fnExactExceedOfWrong)

/-- 'laws.FnExactMixLoads': WHATEVER THE INPUT: true; the input reads as it did. -/
def fnExactMixLoadsSpec : ChangeSpec := { name := "fnExactMixLoads", fn := fun _ => fun
  | [d1, d2, d3, d4] => { results := [.lit (.bool true)], args := [d1, d2, d3, d4] }
  | _ => none }
def fnExactMixLoadsRow : OpenClaim := { program := "ytpchkedgjikpfaa", sum := "826aadbf797f09bd31eca48f85f3ac05af585f2f577095ed4e3cbf3738615b5a", func := "loop.example/g01256/laws.FnExactMixLoads", spec := "fnExactMixLoads", inPlace := ["math.Float64bits", "math.Float64frombits"], unfollowed := true, recurses := true, apart := false }
def FnExactMixLoadsSaid : Prop := fnExactMixLoadsRow.holds Try.pinned (OpenSpec.ofChange fnExactMixLoadsSpec)

/-- ITS FALSE NEIGHBOUR: 'it returns false'. Refute it at one input. -/
def fnExactMixLoadsWrong : ChangeSpec := { name := "fnExactMixLoads", fn := fun _ => fun
  | [d1, d2, d3, d4] => { results := [.lit (.bool false)], args := [d1, d2, d3, d4] }
  | _ => none }
def FnExactMixLoadsWrongFalsely : Prop := fnExactMixLoadsRow.holds Try.pinned (OpenSpec.ofChange fnExactMixLoadsWrong)

/-- 'laws.FnExactEndsOf': WHATEVER THE INPUT: true; the input reads as it did. -/
def fnExactEndsOfSpec : ChangeSpec := { name := "fnExactEndsOf", fn := fun _ => fun
  | [d] => { results := [.lit (.bool true)], args := [d] }
  | _ => none }
def fnExactEndsOfRow : OpenClaim := { program := "ytpchkedgjikpfaa", sum := "826aadbf797f09bd31eca48f85f3ac05af585f2f577095ed4e3cbf3738615b5a", func := "loop.example/g01256/laws.FnExactEndsOf", spec := "fnExactEndsOf", inPlace := ["math.Float64bits", "math.Float64frombits"], unfollowed := true, recurses := true, apart := false }
def FnExactEndsOfSaid : Prop := fnExactEndsOfRow.holds Try.pinned (OpenSpec.ofChange fnExactEndsOfSpec)

/-- ITS FALSE NEIGHBOUR: 'it returns false'. Refute it at one input. -/
def fnExactEndsOfWrong : ChangeSpec := { name := "fnExactEndsOf", fn := fun _ => fun
  | [d] => { results := [.lit (.bool false)], args := [d] }
  | _ => none }
def FnExactEndsOfWrongFalsely : Prop := fnExactEndsOfRow.holds Try.pinned (OpenSpec.ofChange fnExactEndsOfWrong)

/-- 'laws.FnExactSpreadOfLoads': WHATEVER THE INPUT: true; the input reads as it did. -/
def fnExactSpreadOfLoadsSpec : ChangeSpec := { name := "fnExactSpreadOfLoads", fn := fun _ => fun
  | [d] => { results := [.lit (.bool true)], args := [d] }
  | _ => none }
def fnExactSpreadOfLoadsRow : OpenClaim := { program := "ytpchkedgjikpfaa", sum := "826aadbf797f09bd31eca48f85f3ac05af585f2f577095ed4e3cbf3738615b5a", func := "loop.example/g01256/laws.FnExactSpreadOfLoads", spec := "fnExactSpreadOfLoads", inPlace := ["math.sqrt", "math.Float64bits", "math.Float64frombits"], unfollowed := true, recurses := true, apart := false }
def FnExactSpreadOfLoadsSaid : Prop := fnExactSpreadOfLoadsRow.holds Try.pinned (OpenSpec.ofChange fnExactSpreadOfLoadsSpec)

/-- ITS FALSE NEIGHBOUR: 'it returns false'. Refute it at one input. -/
def fnExactSpreadOfLoadsWrong : ChangeSpec := { name := "fnExactSpreadOfLoads", fn := fun _ => fun
  | [d] => { results := [.lit (.bool false)], args := [d] }
  | _ => none }
def FnExactSpreadOfLoadsWrongFalsely : Prop := fnExactSpreadOfLoadsRow.holds Try.pinned (OpenSpec.ofChange fnExactSpreadOfLoadsWrong)

/-- 'laws.FnExactCrossingsOf': WHATEVER THE INPUT: true; the input reads as it did. -/
def fnExactCrossingsOfSpec : ChangeSpec := { name := "fnExactCrossingsOf", fn := fun _ => fun
  | [d1, d2, d3] => { results := [.lit (.bool true)], args := [d1, d2, d3] }
  | _ => none }
def fnExactCrossingsOfRow : OpenClaim := { program := "ytpchkedgjikpfaa", sum := "826aadbf797f09bd31eca48f85f3ac05af585f2f577095ed4e3cbf3738615b5a", func := "loop.example/g01256/laws.FnExactCrossingsOf", spec := "fnExactCrossingsOf", inPlace := ["math.sqrt", "math.Float64bits", "math.Float64frombits"], unfollowed := true, recurses := true, apart := false }
def FnExactCrossingsOfSaid : Prop := fnExactCrossingsOfRow.holds Try.pinned (OpenSpec.ofChange fnExactCrossingsOfSpec)

/-- ITS FALSE NEIGHBOUR: 'it returns false'. Refute it at one input. -/
def fnExactCrossingsOfWrong : ChangeSpec := { name := "fnExactCrossingsOf", fn := fun _ => fun
  | [d1, d2, d3] => { results := [.lit (.bool false)], args := [d1, d2, d3] }
  | _ => none }
def FnExactCrossingsOfWrongFalsely : Prop := fnExactCrossingsOfRow.holds Try.pinned (OpenSpec.ofChange fnExactCrossingsOfWrong)

/-- 'laws.FnExactWorstLoads': WHATEVER THE INPUT: true; the input reads as it did. -/
def fnExactWorstLoadsSpec : ChangeSpec := { name := "fnExactWorstLoads", fn := fun _ => fun
  | [d] => { results := [.lit (.bool true)], args := [d] }
  | _ => none }
def fnExactWorstLoadsRow : OpenClaim := { program := "ytpchkedgjikpfaa", sum := "826aadbf797f09bd31eca48f85f3ac05af585f2f577095ed4e3cbf3738615b5a", func := "loop.example/g01256/laws.FnExactWorstLoads", spec := "fnExactWorstLoads", inPlace := ["math.Float64bits", "math.Float64frombits"], unfollowed := true, recurses := true, apart := false }
def FnExactWorstLoadsSaid : Prop := fnExactWorstLoadsRow.holds Try.pinned (OpenSpec.ofChange fnExactWorstLoadsSpec)

/-- ITS FALSE NEIGHBOUR: 'it returns false'. Refute it at one input. -/
def fnExactWorstLoadsWrong : ChangeSpec := { name := "fnExactWorstLoads", fn := fun _ => fun
  | [d] => { results := [.lit (.bool false)], args := [d] }
  | _ => none }
def FnExactWorstLoadsWrongFalsely : Prop := fnExactWorstLoadsRow.holds Try.pinned (OpenSpec.ofChange fnExactWorstLoadsWrong)

/- THE SECOND FORM. 'bulk': how many values and letters a reading holds, each counted each time it is reached (what is shared counts as often as it is met; a slice's spare places count too). A statement '..UptoSaid' is the law's where the arguments, and the package variables that the reading takes, are together of bulk at most 1048576: NARROWER than '..Said'. Prove '..Said' where nothing that the law and all that it calls make is longer than what came in: it says more and counts as full. Else prove '..UptoSaid'. A law counts once. -/
mutual
def uptoBulk {H : Type} : DataW H → Nat
  | .lit (.string bytes) => bytes.length + 1
  | .lit _ => 1
  | .nil => 1
  | .ptr d => uptoBulk d + 1
  | .slice elems spare => uptoBulkAll elems + uptoBulkAll spare + 1
  | .agg parts => uptoBulkAll parts + 1
  | .iface _ d => uptoBulk d + 1
  | .map entries => uptoBulkEntries entries + 1
  | .held _ => 1
def uptoBulkAll {H : Type} : List (DataW H) → Nat
  | [] => 0
  | d :: r => uptoBulk d + uptoBulkAll r
def uptoBulkEntries {H : Type} : List (Lit × DataW H) → Nat
  | [] => 0
  | x :: r => uptoBulkEntry x + uptoBulkEntries r
def uptoBulkEntry {H : Type} : Lit × DataW H → Nat
  | (.string bytes, d) => bytes.length + uptoBulk d + 1
  | (_, d) => uptoBulk d + 1
 end
def uptoSmall : (H : Type) → List (DataW H) → Bool := fun _ ds => decide (uptoBulkAll ds ≤ 1048576)
def OpenSpec.upto (s : _root_.Go.ChangeSpec) : _root_.Go.OpenSpec := { _root_.Go.OpenSpec.ofChange s with cond := some uptoSmall }

/-- 'laws.FnExactValidTower', WHERE WHAT IT READS IS OF BULK AT MOST 1048576: true; the input reads as it did. -/
def fnExactValidTowerUptoRow : OpenClaim := { program := "ytpchkedgjikpfaa", sum := "826aadbf797f09bd31eca48f85f3ac05af585f2f577095ed4e3cbf3738615b5a", func := "loop.example/g01256/laws.FnExactValidTower", spec := "fnExactValidTower", inPlace := ["math.Float64bits", "math.Float64frombits"], apart := false, narrowed := true }
def FnExactValidTowerUptoSaid : Prop := fnExactValidTowerUptoRow.holds Try.pinned (OpenSpec.upto fnExactValidTowerSpec)

/-- 'laws.FnExactTowerRate', WHERE WHAT IT READS IS OF BULK AT MOST 1048576: true; the input reads as it did. -/
def fnExactTowerRateUptoRow : OpenClaim := { program := "ytpchkedgjikpfaa", sum := "826aadbf797f09bd31eca48f85f3ac05af585f2f577095ed4e3cbf3738615b5a", func := "loop.example/g01256/laws.FnExactTowerRate", spec := "fnExactTowerRate", inPlace := ["math.sqrt", "math.Float64bits", "math.Float64frombits"], apart := false, narrowed := true }
def FnExactTowerRateUptoSaid : Prop := fnExactTowerRateUptoRow.holds Try.pinned (OpenSpec.upto fnExactTowerRateSpec)

/-- 'laws.FnExactStepTower', WHERE WHAT IT READS IS OF BULK AT MOST 1048576: true; the input reads as it did. -/
def fnExactStepTowerUptoRow : OpenClaim := { program := "ytpchkedgjikpfaa", sum := "826aadbf797f09bd31eca48f85f3ac05af585f2f577095ed4e3cbf3738615b5a", func := "loop.example/g01256/laws.FnExactStepTower", spec := "fnExactStepTower", inPlace := ["math.Float64bits", "math.Float64frombits"], apart := false, narrowed := true }
def FnExactStepTowerUptoSaid : Prop := fnExactStepTowerUptoRow.holds Try.pinned (OpenSpec.upto fnExactStepTowerSpec)

/-- 'laws.FnExactEnergyOfTower', WHERE WHAT IT READS IS OF BULK AT MOST 1048576: true; the input reads as it did. -/
def fnExactEnergyOfTowerUptoRow : OpenClaim := { program := "ytpchkedgjikpfaa", sum := "826aadbf797f09bd31eca48f85f3ac05af585f2f577095ed4e3cbf3738615b5a", func := "loop.example/g01256/laws.FnExactEnergyOfTower", spec := "fnExactEnergyOfTower", inPlace := ["math.Float64bits", "math.Float64frombits"], apart := false, narrowed := true }
def FnExactEnergyOfTowerUptoSaid : Prop := fnExactEnergyOfTowerUptoRow.holds Try.pinned (OpenSpec.upto fnExactEnergyOfTowerSpec)

/-- 'laws.FnExactRunTower', WHERE WHAT IT READS IS OF BULK AT MOST 1048576: true; the input reads as it did. -/
def fnExactRunTowerUptoRow : OpenClaim := { program := "ytpchkedgjikpfaa", sum := "826aadbf797f09bd31eca48f85f3ac05af585f2f577095ed4e3cbf3738615b5a", func := "loop.example/g01256/laws.FnExactRunTower", spec := "fnExactRunTower", inPlace := ["math.Float64bits", "math.Float64frombits"], apart := false, narrowed := true }
def FnExactRunTowerUptoSaid : Prop := fnExactRunTowerUptoRow.holds Try.pinned (OpenSpec.upto fnExactRunTowerSpec)

/-- 'laws.FnExactMeanLoad', WHERE WHAT IT READS IS OF BULK AT MOST 1048576: true; the input reads as it did. -/
def fnExactMeanLoadUptoRow : OpenClaim := { program := "ytpchkedgjikpfaa", sum := "826aadbf797f09bd31eca48f85f3ac05af585f2f577095ed4e3cbf3738615b5a", func := "loop.example/g01256/laws.FnExactMeanLoad", spec := "fnExactMeanLoad", inPlace := ["math.Float64bits", "math.Float64frombits"], unfollowed := true, recurses := true, apart := false, narrowed := true }
def FnExactMeanLoadUptoSaid : Prop := fnExactMeanLoadUptoRow.holds Try.pinned (OpenSpec.upto fnExactMeanLoadSpec)

/-- 'laws.FnExactExceedOf', WHERE WHAT IT READS IS OF BULK AT MOST 1048576: true; the input reads as it did. -/
def fnExactExceedOfUptoRow : OpenClaim := { program := "ytpchkedgjikpfaa", sum := "826aadbf797f09bd31eca48f85f3ac05af585f2f577095ed4e3cbf3738615b5a", func := "loop.example/g01256/laws.FnExactExceedOf", spec := "fnExactExceedOf", inPlace := ["math.Float64bits", "math.Float64frombits"], unfollowed := true, recurses := true, apart := false, narrowed := true }
def FnExactExceedOfUptoSaid : Prop := fnExactExceedOfUptoRow.holds Try.pinned (OpenSpec.upto fnExactExceedOfSpec)

/-- 'laws.FnExactMixLoads', WHERE WHAT IT READS IS OF BULK AT MOST 1048576: true; the input reads as it did. -/
def fnExactMixLoadsUptoRow : OpenClaim := { program := "ytpchkedgjikpfaa", sum := "826aadbf797f09bd31eca48f85f3ac05af585f2f577095ed4e3cbf3738615b5a", func := "loop.example/g01256/laws.FnExactMixLoads", spec := "fnExactMixLoads", inPlace := ["math.Float64bits", "math.Float64frombits"], unfollowed := true, recurses := true, apart := false, narrowed := true }
def FnExactMixLoadsUptoSaid : Prop := fnExactMixLoadsUptoRow.holds Try.pinned (OpenSpec.upto fnExactMixLoadsSpec)

/-- 'laws.FnExactEndsOf', WHERE WHAT IT READS IS OF BULK AT MOST 1048576: true; the input reads as it did. -/
def fnExactEndsOfUptoRow : OpenClaim := { program := "ytpchkedgjikpfaa", sum := "826aadbf797f09bd31eca48f85f3ac05af585f2f577095ed4e3cbf3738615b5a", func := "loop.example/g01256/laws.FnExactEndsOf", spec := "fnExactEndsOf", inPlace := ["math.Float64bits", "math.Float64frombits"], unfollowed := true, recurses := true, apart := false, narrowed := true }
def FnExactEndsOfUptoSaid : Prop := fnExactEndsOfUptoRow.holds Try.pinned (OpenSpec.upto fnExactEndsOfSpec)

/-- 'laws.FnExactSpreadOfLoads', WHERE WHAT IT READS IS OF BULK AT MOST 1048576: true; the input reads as it did. -/
def fnExactSpreadOfLoadsUptoRow : OpenClaim := { program := "ytpchkedgjikpfaa", sum := "826aadbf797f09bd31eca48f85f3ac05af585f2f577095ed4e3cbf3738615b5a", func := "loop.example/g01256/laws.FnExactSpreadOfLoads", spec := "fnExactSpreadOfLoads", inPlace := ["math.sqrt", "math.Float64bits", "math.Float64frombits"], unfollowed := true, recurses := true, apart := false, narrowed := true }
def FnExactSpreadOfLoadsUptoSaid : Prop := fnExactSpreadOfLoadsUptoRow.holds Try.pinned (OpenSpec.upto fnExactSpreadOfLoadsSpec)

/-- 'laws.FnExactCrossingsOf', WHERE WHAT IT READS IS OF BULK AT MOST 1048576: true; the input reads as it did. -/
def fnExactCrossingsOfUptoRow : OpenClaim := { program := "ytpchkedgjikpfaa", sum := "826aadbf797f09bd31eca48f85f3ac05af585f2f577095ed4e3cbf3738615b5a", func := "loop.example/g01256/laws.FnExactCrossingsOf", spec := "fnExactCrossingsOf", inPlace := ["math.sqrt", "math.Float64bits", "math.Float64frombits"], unfollowed := true, recurses := true, apart := false, narrowed := true }
def FnExactCrossingsOfUptoSaid : Prop := fnExactCrossingsOfUptoRow.holds Try.pinned (OpenSpec.upto fnExactCrossingsOfSpec)

/-- 'laws.FnExactWorstLoads', WHERE WHAT IT READS IS OF BULK AT MOST 1048576: true; the input reads as it did. -/
def fnExactWorstLoadsUptoRow : OpenClaim := { program := "ytpchkedgjikpfaa", sum := "826aadbf797f09bd31eca48f85f3ac05af585f2f577095ed4e3cbf3738615b5a", func := "loop.example/g01256/laws.FnExactWorstLoads", spec := "fnExactWorstLoads", inPlace := ["math.Float64bits", "math.Float64frombits"], unfollowed := true, recurses := true, apart := false, narrowed := true }
def FnExactWorstLoadsUptoSaid : Prop := fnExactWorstLoadsUptoRow.holds Try.pinned (OpenSpec.upto fnExactWorstLoadsSpec)

end Rows
end Go.Proofs.Ytpchkedgjikpfaa
