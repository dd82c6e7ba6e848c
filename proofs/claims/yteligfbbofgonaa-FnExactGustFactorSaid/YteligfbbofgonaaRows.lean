/-
  No cell of these rows narrows 'for every input' (looked for: loops, veiled, ifaces, maps, wideKeys, modest, calm, conditions, laid).
  DERIVED. THE GIVEN ROWS OF THIS SEAT. 12 by the template 'for every input the law returns true; each argument reads behind the call as it read before'; 0 by the template 'total and deterministic' (their statements: YteligfbbofgonaaTotals.lean).
  GIVEN WITH THE SEED: the statements are not yours to turn. If you find one false, say at which input.
  Laid BY PROGRAM, IN A SANDBOX (cutbox-rows.mjs): the forced cells as the released guide's own fill.sh prints them over the translation 6f6fdcfdd198aea2… (all of the seat's roots in one cut). By AI agents, Wed Nov 11 2026. No macro, syntax, notation, axiom, sorry.
-/
import Derived.Test.YteligfbbofgonaaChecked
import GoSem.Claim
import GoSem.ClaimJoined
import GoSem.ClaimMapViews
import Derived.JoinedTies
import Derived.KernelRfl
namespace Go.Proofs.Yteligfbbofgonaa
/- THE CELL 'sum', in the pinned program and in every row, IS THE sha256 OF THE DUMP (.gsa) THAT YteligfbbofgonaaProg.lean LOADS. Nothing in Lean hashes anything: it is a label: what it is worth is what the hold of that sum in a sandbox is worth. -/
noncomputable def Try.pinned : Pinned := { name := "yteligfbbofgonaa", sum := "6f6fdcfdd198aea2e8b2fdc911f3c9012f7f152a2ba23f1339f7f7625a4be612", checked := Try.checked }
namespace Rows
def none {H : Type} : Left H := { results := [], args := [] }

/-- 'laws.FnExactValidAir': WHATEVER THE INPUT: true; the input reads as it did. -/
def fnExactValidAirSpec : ChangeSpec := { name := "fnExactValidAir", fn := fun _ => fun
  | [d] => { results := [.lit (.bool true)], args := [d] }
  | _ => none }
def fnExactValidAirRow : OpenClaim := { program := "yteligfbbofgonaa", sum := "6f6fdcfdd198aea2e8b2fdc911f3c9012f7f152a2ba23f1339f7f7625a4be612", func := "loop.example/g01256/laws.FnExactValidAir", spec := "fnExactValidAir", inPlace := ["math.Float64bits", "math.Float64frombits"], apart := false }
def FnExactValidAirSaid : Prop := fnExactValidAirRow.holds Try.pinned (OpenSpec.ofChange fnExactValidAirSpec)

/-- ITS FALSE NEIGHBOUR: 'it returns false'. Refute it at one input. -/
def fnExactValidAirWrong : ChangeSpec := { name := "fnExactValidAir", fn := fun _ => fun
  | [d] => { results := [.lit (.bool false)], args := [d] }
  | _ => none }
def FnExactValidAirWrongFalsely : Prop := fnExactValidAirRow.holds Try.pinned (OpenSpec.ofChange fnExactValidAirWrong)

/-- 'laws.FnExactSameAir': WHATEVER THE INPUT: true; the input reads as it did. -/
def fnExactSameAirSpec : ChangeSpec := { name := "fnExactSameAir", fn := fun _ => fun
  | [d1, d2] => { results := [.lit (.bool true)], args := [d1, d2] }
  | _ => none }
def fnExactSameAirRow : OpenClaim := { program := "yteligfbbofgonaa", sum := "6f6fdcfdd198aea2e8b2fdc911f3c9012f7f152a2ba23f1339f7f7625a4be612", func := "loop.example/g01256/laws.FnExactSameAir", spec := "fnExactSameAir", inPlace := ["math.Float32bits"], apart := false }
def FnExactSameAirSaid : Prop := fnExactSameAirRow.holds Try.pinned (OpenSpec.ofChange fnExactSameAirSpec)

/-- ITS FALSE NEIGHBOUR: 'it returns false'. Refute it at one input. -/
def fnExactSameAirWrong : ChangeSpec := { name := "fnExactSameAir", fn := fun _ => fun
  | [d1, d2] => { results := [.lit (.bool false)], args := [d1, d2] }
  | _ => none }
def FnExactSameAirWrongFalsely : Prop := fnExactSameAirRow.holds Try.pinned (OpenSpec.ofChange fnExactSameAirWrong)

/-- 'laws.FnExactSpeedAtHeight': WHATEVER THE INPUT: true; the input reads as it did. -/
def fnExactSpeedAtHeightSpec : ChangeSpec := { name := "fnExactSpeedAtHeight", fn := fun _ => fun
  | [d1, d2] => { results := [.lit (.bool true)], args := [d1, d2] }
  | _ => none }
def fnExactSpeedAtHeightRow : OpenClaim := { program := "yteligfbbofgonaa", sum := "6f6fdcfdd198aea2e8b2fdc911f3c9012f7f152a2ba23f1339f7f7625a4be612", func := "loop.example/g01256/laws.FnExactSpeedAtHeight", spec := "fnExactSpeedAtHeight", inPlace := ["math.Float64bits", "math.Float64frombits"], apart := false }
def FnExactSpeedAtHeightSaid : Prop := fnExactSpeedAtHeightRow.holds Try.pinned (OpenSpec.ofChange fnExactSpeedAtHeightSpec)

/-- ITS FALSE NEIGHBOUR: 'it returns false'. Refute it at one input. -/
def fnExactSpeedAtHeightWrong : ChangeSpec := { name := "fnExactSpeedAtHeight", fn := fun _ => fun
  | [d1, d2] => { results := [.lit (.bool false)], args := [d1, d2] }
  | _ => none }
def FnExactSpeedAtHeightWrongFalsely : Prop := fnExactSpeedAtHeightRow.holds Try.pinned (OpenSpec.ofChange fnExactSpeedAtHeightWrong)

/-- 'laws.FnExactDensityAtHeight': WHATEVER THE INPUT: true; the input reads as it did. -/
def fnExactDensityAtHeightSpec : ChangeSpec := { name := "fnExactDensityAtHeight", fn := fun _ => fun
  | [d1, d2] => { results := [.lit (.bool true)], args := [d1, d2] }
  | _ => none }
def fnExactDensityAtHeightRow : OpenClaim := { program := "yteligfbbofgonaa", sum := "6f6fdcfdd198aea2e8b2fdc911f3c9012f7f152a2ba23f1339f7f7625a4be612", func := "loop.example/g01256/laws.FnExactDensityAtHeight", spec := "fnExactDensityAtHeight", inPlace := ["math.Float64bits", "math.Float64frombits"], apart := false }
def FnExactDensityAtHeightSaid : Prop := fnExactDensityAtHeightRow.holds Try.pinned (OpenSpec.ofChange fnExactDensityAtHeightSpec)

/-- ITS FALSE NEIGHBOUR: 'it returns false'. Refute it at one input. -/
def fnExactDensityAtHeightWrong : ChangeSpec := { name := "fnExactDensityAtHeight", fn := fun _ => fun
  | [d1, d2] => { results := [.lit (.bool false)], args := [d1, d2] }
  | _ => none }
def FnExactDensityAtHeightWrongFalsely : Prop := fnExactDensityAtHeightRow.holds Try.pinned (OpenSpec.ofChange fnExactDensityAtHeightWrong)

/-- 'laws.FnExactAirPower': WHATEVER THE INPUT: true; the input reads as it did. -/
def fnExactAirPowerSpec : ChangeSpec := { name := "fnExactAirPower", fn := fun _ => fun
  | [d1, d2] => { results := [.lit (.bool true)], args := [d1, d2] }
  | _ => none }
def fnExactAirPowerRow : OpenClaim := { program := "yteligfbbofgonaa", sum := "6f6fdcfdd198aea2e8b2fdc911f3c9012f7f152a2ba23f1339f7f7625a4be612", func := "loop.example/g01256/laws.FnExactAirPower", spec := "fnExactAirPower", inPlace := ["math.Float64bits", "math.Float64frombits"], apart := false }
def FnExactAirPowerSaid : Prop := fnExactAirPowerRow.holds Try.pinned (OpenSpec.ofChange fnExactAirPowerSpec)

/-- ITS FALSE NEIGHBOUR: 'it returns false'. Refute it at one input. -/
def fnExactAirPowerWrong : ChangeSpec := { name := "fnExactAirPower", fn := fun _ => fun
  | [d1, d2] => { results := [.lit (.bool false)], args := [d1, d2] }
  | _ => none }
def FnExactAirPowerWrongFalsely : Prop := fnExactAirPowerRow.holds Try.pinned (OpenSpec.ofChange fnExactAirPowerWrong)

/-- 'laws.FnExactSectorOf': WHATEVER THE INPUT: true; the input reads as it did. -/
def fnExactSectorOfSpec : ChangeSpec := { name := "fnExactSectorOf", fn := fun _ => fun
  | [d1, d2] => { results := [.lit (.bool true)], args := [d1, d2] }
  | _ => none }
def fnExactSectorOfRow : OpenClaim := { program := "yteligfbbofgonaa", sum := "6f6fdcfdd198aea2e8b2fdc911f3c9012f7f152a2ba23f1339f7f7625a4be612", func := "loop.example/g01256/laws.FnExactSectorOf", spec := "fnExactSectorOf", inPlace := ["math.archFloor", "math.Float64bits", "math.Float64frombits", "math.archTrunc"], apart := false }
def FnExactSectorOfSaid : Prop := fnExactSectorOfRow.holds Try.pinned (OpenSpec.ofChange fnExactSectorOfSpec)

/-- ITS FALSE NEIGHBOUR: 'it returns false'. Refute it at one input. -/
def fnExactSectorOfWrong : ChangeSpec := { name := "fnExactSectorOf", fn := fun _ => fun
  | [d1, d2] => { results := [.lit (.bool false)], args := [d1, d2] }
  | _ => none }
def FnExactSectorOfWrongFalsely : Prop := fnExactSectorOfRow.holds Try.pinned (OpenSpec.ofChange fnExactSectorOfWrong)

/-- 'laws.FnExactMeanOfWinds': WHATEVER THE INPUT: true; the input reads as it did. -/
def fnExactMeanOfWindsSpec : ChangeSpec := { name := "fnExactMeanOfWinds", fn := fun _ => fun
  | [d] => { results := [.lit (.bool true)], args := [d] }
  | _ => none }
def fnExactMeanOfWindsRow : OpenClaim := { program := "yteligfbbofgonaa", sum := "6f6fdcfdd198aea2e8b2fdc911f3c9012f7f152a2ba23f1339f7f7625a4be612", func := "loop.example/g01256/laws.FnExactMeanOfWinds", spec := "fnExactMeanOfWinds", inPlace := ["math.Float64bits", "math.Float64frombits"], unfollowed := true, recurses := true, apart := false }
def FnExactMeanOfWindsSaid : Prop := fnExactMeanOfWindsRow.holds Try.pinned (OpenSpec.ofChange fnExactMeanOfWindsSpec)

/-- ITS FALSE NEIGHBOUR: 'it returns false'. Refute it at one input. -/
def fnExactMeanOfWindsWrong : ChangeSpec := { name := "fnExactMeanOfWinds", fn := fun _ => fun
  | [d] => { results := [.lit (.bool false)], args := [d] }
  | _ => none }
def FnExactMeanOfWindsWrongFalsely : Prop := fnExactMeanOfWindsRow.holds Try.pinned (OpenSpec.ofChange fnExactMeanOfWindsWrong)

/-- 'laws.FnExactSpreadOfWinds': WHATEVER THE INPUT: true; the input reads as it did. -/
def fnExactSpreadOfWindsSpec : ChangeSpec := { name := "fnExactSpreadOfWinds", fn := fun _ => fun
  | [d] => { results := [.lit (.bool true)], args := [d] }
  | _ => none }
def fnExactSpreadOfWindsRow : OpenClaim := { program := "yteligfbbofgonaa", sum := "6f6fdcfdd198aea2e8b2fdc911f3c9012f7f152a2ba23f1339f7f7625a4be612", func := "loop.example/g01256/laws.FnExactSpreadOfWinds", spec := "fnExactSpreadOfWinds", inPlace := ["math.sqrt", "math.Float64bits", "math.Float64frombits"], unfollowed := true, recurses := true, apart := false }
def FnExactSpreadOfWindsSaid : Prop := fnExactSpreadOfWindsRow.holds Try.pinned (OpenSpec.ofChange fnExactSpreadOfWindsSpec)

/-- ITS FALSE NEIGHBOUR: 'it returns false'. Refute it at one input. -/
def fnExactSpreadOfWindsWrong : ChangeSpec := { name := "fnExactSpreadOfWinds", fn := fun _ => fun
  | [d] => { results := [.lit (.bool false)], args := [d] }
  | _ => none }
def FnExactSpreadOfWindsWrongFalsely : Prop := fnExactSpreadOfWindsRow.holds Try.pinned (OpenSpec.ofChange fnExactSpreadOfWindsWrong)

/-- 'laws.FnExactCalmsOf': WHATEVER THE INPUT: true; the input reads as it did. -/
def fnExactCalmsOfSpec : ChangeSpec := { name := "fnExactCalmsOf", fn := fun _ => fun
  | [d1, d2] => { results := [.lit (.bool true)], args := [d1, d2] }
  | _ => none }
def fnExactCalmsOfRow : OpenClaim := { program := "yteligfbbofgonaa", sum := "6f6fdcfdd198aea2e8b2fdc911f3c9012f7f152a2ba23f1339f7f7625a4be612", func := "loop.example/g01256/laws.FnExactCalmsOf", spec := "fnExactCalmsOf", inPlace := ["math.Float64bits", "math.Float64frombits"], unfollowed := true, recurses := true, apart := false }
def FnExactCalmsOfSaid : Prop := fnExactCalmsOfRow.holds Try.pinned (OpenSpec.ofChange fnExactCalmsOfSpec)

/-- ITS FALSE NEIGHBOUR: 'it returns false'. Refute it at one input. -/
def fnExactCalmsOfWrong : ChangeSpec := { name := "fnExactCalmsOf", fn := fun _ => fun
  | [d1, d2] => { results := [.lit (.bool false)], args := [d1, d2] }
  | _ => none }
def FnExactCalmsOfWrongFalsely : Prop := fnExactCalmsOfRow.holds Try.pinned (OpenSpec.ofChange fnExactCalmsOfWrong)

/-- 'laws.FnExactSmoothWinds': WHATEVER THE INPUT: true; the input reads as it did. -/
def fnExactSmoothWindsSpec : ChangeSpec := { name := "fnExactSmoothWinds", fn := fun _ => fun
  | [d1, d2] => { results := [.lit (.bool true)], args := [d1, d2] }
  | _ => none }
def fnExactSmoothWindsRow : OpenClaim := { program := "yteligfbbofgonaa", sum := "6f6fdcfdd198aea2e8b2fdc911f3c9012f7f152a2ba23f1339f7f7625a4be612", func := "loop.example/g01256/laws.FnExactSmoothWinds", spec := "fnExactSmoothWinds", inPlace := ["math.Float64bits", "math.Float64frombits"], unfollowed := true, recurses := true, apart := false }
def FnExactSmoothWindsSaid : Prop := fnExactSmoothWindsRow.holds Try.pinned (OpenSpec.ofChange fnExactSmoothWindsSpec)

/-- ITS FALSE NEIGHBOUR: 'it returns false'. Refute it at one input. -/
def fnExactSmoothWindsWrong : ChangeSpec := { name := "fnExactSmoothWinds", fn := fun _ => fun
  | [d1, d2] => { results := [.lit (.bool false)], args := [d1, d2] }
  | _ => none }
def FnExactSmoothWindsWrongFalsely : Prop := fnExactSmoothWindsRow.holds Try.pinned (OpenSpec.ofChange fnExactSmoothWindsWrong)

/-- 'laws.FnExactGustFactor': WHATEVER THE INPUT: true; the input reads as it did. -/
def fnExactGustFactorSpec : ChangeSpec := { name := "fnExactGustFactor", fn := fun _ => fun
  | [d1, d2] => { results := [.lit (.bool true)], args := [d1, d2] }
  | _ => none }
def fnExactGustFactorRow : OpenClaim := { program := "yteligfbbofgonaa", sum := "6f6fdcfdd198aea2e8b2fdc911f3c9012f7f152a2ba23f1339f7f7625a4be612", func := "loop.example/g01256/laws.FnExactGustFactor", spec := "fnExactGustFactor", inPlace := ["math.Float64bits", "math.Float64frombits"], unfollowed := true, recurses := true, apart := false }
def FnExactGustFactorSaid : Prop := fnExactGustFactorRow.holds Try.pinned (OpenSpec.ofChange fnExactGustFactorSpec)

/-- ITS FALSE NEIGHBOUR: 'it returns false'. Refute it at one input. -/
def fnExactGustFactorWrong : ChangeSpec := { name := "fnExactGustFactor", fn := fun _ => fun
  | [d1, d2] => { results := [.lit (.bool false)], args := [d1, d2] }
  | _ => none }
def FnExactGustFactorWrongFalsely : Prop := fnExactGustFactorRow.holds Try.pinned (OpenSpec.ofChange fnExactGustFactorWrong)

/-- 'laws.FnExactBinsOfWinds': WHATEVER THE INPUT: true; the input reads as it did. -/
def fnExactBinsOfWindsSpec : ChangeSpec := { name := "fnExactBinsOfWinds", fn := fun _ => fun
  | [d1, d2, d3] => { results := [.lit (.bool true)], args := [d1, d2, d3] }
  | _ => none }
def fnExactBinsOfWindsRow : OpenClaim := { program := "yteligfbbofgonaa", sum := "6f6fdcfdd198aea2e8b2fdc911f3c9012f7f152a2ba23f1339f7f7625a4be612", func := "loop.example/g01256/laws.FnExactBinsOfWinds", spec := "fnExactBinsOfWinds", inPlace := ["math.archFloor", "math.Float64bits", "math.Float64frombits", "math.archTrunc"], unfollowed := true, recurses := true, apart := false }
def FnExactBinsOfWindsSaid : Prop := fnExactBinsOfWindsRow.holds Try.pinned (OpenSpec.ofChange fnExactBinsOfWindsSpec)

/-- ITS FALSE NEIGHBOUR: 'it returns false'. Refute it at one input. -/
def fnExactBinsOfWindsWrong : ChangeSpec := { name := "fnExactBinsOfWinds", fn := fun _ => fun
  | [d1, d2, d3] => { results := [.lit (.bool false)], args := [d1, d2, d3] }
  | _ => none }
def FnExactBinsOfWindsWrongFalsely : Prop := fnExactBinsOfWindsRow.holds Try.pinned (OpenSpec.ofChange fnExactBinsOfWindsWrong)

/- THE SECOND FORM. 'bulk': how many values and letters a reading holds, each counted each time it is reached (what is shared counts as often as it is met; a slice's spare places count too). A statement '..UptoSaid' is the law's where the arguments, and the package variables that the reading takes, are together of bulk at most 1048576: NARROWER than '..Said'. Prove '..Said' where nothing that the law and all that it calls make is longer than what came in: it says more and counts as full. Else prove '..UptoSaid'. A law counts once. -/
mutual
def uptoBulk {H : Type} : DataW H → Nat
  | .lit (.string bytes) => bytes.length + 1
  | .lit _ => 1
  | .nil => 1
  | .ptr d => uptoBulk d + 1
  | .slice elems spare => uptoBulkAll elems + uptoBulkAll spare + 1
  | .agg parts => uptoBulkAll parts + 1
  | .iface _ d => uptoBulk d + 1
  | .map entries => uptoBulkEntries entries + 1
  | .held _ => 1
def uptoBulkAll {H : Type} : List (DataW H) → Nat
  | [] => 0
  | d :: r => uptoBulk d + uptoBulkAll r
def uptoBulkEntries {H : Type} : List (Lit × DataW H) → Nat
  | [] => 0
  | x :: r => uptoBulkEntry x + uptoBulkEntries r
def uptoBulkEntry {H : Type} : Lit × DataW H → Nat
  | (.string bytes, d) => bytes.length + uptoBulk d + 1
  | (_, d) => uptoBulk d + 1
 end
def uptoSmall : (H : Type) → List (DataW H) → Bool := fun _ ds => decide (uptoBulkAll ds ≤ 1048576)
def OpenSpec.upto (s : _root_.Go.ChangeSpec) : _root_.Go.OpenSpec := { _root_.Go.OpenSpec.ofChange s with cond := some uptoSmall }

/-- 'laws.FnExactValidAir', WHERE WHAT IT READS IS OF BULK AT MOST 1048576: true; the input reads as it did. -/
def fnExactValidAirUptoRow : OpenClaim := { program := "yteligfbbofgonaa", sum := "6f6fdcfdd198aea2e8b2fdc911f3c9012f7f152a2ba23f1339f7f7625a4be612", func := "loop.example/g01256/laws.FnExactValidAir", spec := "fnExactValidAir", inPlace := ["math.Float64bits", "math.Float64frombits"], apart := false, narrowed := true }
def FnExactValidAirUptoSaid : Prop := fnExactValidAirUptoRow.holds Try.pinned (OpenSpec.upto fnExactValidAirSpec)

/-- 'laws.FnExactSameAir', WHERE WHAT IT READS IS OF BULK AT MOST 1048576: true; the input reads as it did. -/
def fnExactSameAirUptoRow : OpenClaim := { program := "yteligfbbofgonaa", sum := "6f6fdcfdd198aea2e8b2fdc911f3c9012f7f152a2ba23f1339f7f7625a4be612", func := "loop.example/g01256/laws.FnExactSameAir", spec := "fnExactSameAir", inPlace := ["math.Float32bits"], apart := false, narrowed := true }
def FnExactSameAirUptoSaid : Prop := fnExactSameAirUptoRow.holds Try.pinned (OpenSpec.upto fnExactSameAirSpec)

/-- 'laws.FnExactSpeedAtHeight', WHERE WHAT IT READS IS OF BULK AT MOST 1048576: true; the input reads as it did. -/
def fnExactSpeedAtHeightUptoRow : OpenClaim := { program := "yteligfbbofgonaa", sum := "6f6fdcfdd198aea2e8b2fdc911f3c9012f7f152a2ba23f1339f7f7625a4be612", func := "loop.example/g01256/laws.FnExactSpeedAtHeight", spec := "fnExactSpeedAtHeight", inPlace := ["math.Float64bits", "math.Float64frombits"], apart := false, narrowed := true }
def FnExactSpeedAtHeightUptoSaid : Prop := fnExactSpeedAtHeightUptoRow.holds Try.pinned (OpenSpec.upto fnExactSpeedAtHeightSpec)

/-- 'laws.FnExactDensityAtHeight', WHERE WHAT IT READS IS OF BULK AT MOST 1048576: true; the input reads as it did. -/
def fnExactDensityAtHeightUptoRow : OpenClaim := { program := "yteligfbbofgonaa", sum := "6f6fdcfdd198aea2e8b2fdc911f3c9012f7f152a2ba23f1339f7f7625a4be612", func := "loop.example/g01256/laws.FnExactDensityAtHeight", spec := "fnExactDensityAtHeight", inPlace := ["math.Float64bits", "math.Float64frombits"], apart := false, narrowed := true }
def FnExactDensityAtHeightUptoSaid : Prop := fnExactDensityAtHeightUptoRow.holds Try.pinned (OpenSpec.upto fnExactDensityAtHeightSpec)

/-- 'laws.FnExactAirPower', WHERE WHAT IT READS IS OF BULK AT MOST 1048576: true; the input reads as it did. -/
def fnExactAirPowerUptoRow : OpenClaim := { program := "yteligfbbofgonaa", sum := "6f6fdcfdd198aea2e8b2fdc911f3c9012f7f152a2ba23f1339f7f7625a4be612", func := "loop.example/g01256/laws.FnExactAirPower", spec := "fnExactAirPower", inPlace := ["math.Float64bits", "math.Float64frombits"], apart := false, narrowed := true }
def FnExactAirPowerUptoSaid : Prop := fnExactAirPowerUptoRow.holds Try.pinned (OpenSpec.upto fnExactAirPowerSpec)

/-- 'laws.FnExactSectorOf', WHERE WHAT IT READS IS OF BULK AT MOST 1048576: true; the input reads as it did. -/
def fnExactSectorOfUptoRow : OpenClaim := { program := "yteligfbbofgonaa", sum := "6f6fdcfdd198aea2e8b2fdc911f3c9012f7f152a2ba23f1339f7f7625a4be612", func := "loop.example/g01256/laws.FnExactSectorOf", spec := "fnExactSectorOf", inPlace := ["math.archFloor", "math.Float64bits", "math.Float64frombits", "math.archTrunc"], apart := false, narrowed := true }
def FnExactSectorOfUptoSaid : Prop := fnExactSectorOfUptoRow.holds Try.pinned (OpenSpec.upto fnExactSectorOfSpec)

/-- 'laws.FnExactMeanOfWinds', WHERE WHAT IT READS IS OF BULK AT MOST 1048576: true; the input reads as it did. -/
def fnExactMeanOfWindsUptoRow : OpenClaim := { program := "yteligfbbofgonaa", sum := "6f6fdcfdd198aea2e8b2fdc911f3c9012f7f152a2ba23f1339f7f7625a4be612", func := "loop.example/g01256/laws.FnExactMeanOfWinds", spec := "fnExactMeanOfWinds", inPlace := ["math.Float64bits", "math.Float64frombits"], unfollowed := true, recurses := true, apart := false, narrowed := true }
def FnExactMeanOfWindsUptoSaid : Prop := fnExactMeanOfWindsUptoRow.holds Try.pinned (OpenSpec.upto fnExactMeanOfWindsSpec)

/-- 'laws.FnExactSpreadOfWinds', WHERE WHAT IT READS IS OF BULK AT MOST 1048576: true; the input reads as it did. -/
def fnExactSpreadOfWindsUptoRow : OpenClaim := { program := "yteligfbbofgonaa", sum := "6f6fdcfdd198aea2e8b2fdc911f3c9012f7f152a2ba23f1339f7f7625a4be612", func := "loop.example/g01256/laws.FnExactSpreadOfWinds", spec := "fnExactSpreadOfWinds", inPlace := ["math.sqrt", "math.Float64bits", "math.Float64frombits"], unfollowed := true, recurses := true, apart := false, narrowed := true }
def FnExactSpreadOfWindsUptoSaid : Prop := fnExactSpreadOfWindsUptoRow.holds Try.pinned (OpenSpec.upto fnExactSpreadOfWindsSpec)

/-- 'laws.FnExactCalmsOf', WHERE WHAT IT READS IS OF BULK AT MOST 1048576: true; the input reads as it did. -/
def fnExactCalmsOfUptoRow : OpenClaim := { program := "yteligfbbofgonaa", sum := "6f6fdcfdd198aea2e8b2fdc911f3c9012f7f152a2ba23f1339f7f7625a4be612", func := "loop.example/g01256/laws.FnExactCalmsOf", spec := "fnExactCalmsOf", inPlace := ["math.Float64bits", "math.Float64frombits"], unfollowed := true, recurses := true, apart := false, narrowed := true }
def FnExactCalmsOfUptoSaid : Prop := fnExactCalmsOfUptoRow.holds Try.pinned (OpenSpec.upto fnExactCalmsOfSpec)

/-- 'laws.FnExactSmoothWinds', WHERE WHAT IT READS IS OF BULK AT MOST 1048576: true; the input reads as it did. -/
def fnExactSmoothWindsUptoRow : OpenClaim := { program := "yteligfbbofgonaa", sum := "6f6fdcfdd198aea2e8b2fdc911f3c9012f7f152a2ba23f1339f7f7625a4be612", func := "loop.example/g01256/laws.FnExactSmoothWinds", spec := "fnExactSmoothWinds", inPlace := ["math.Float64bits", "math.Float64frombits"], unfollowed := true, recurses := true, apart := false, narrowed := true }
def FnExactSmoothWindsUptoSaid : Prop := fnExactSmoothWindsUptoRow.holds Try.pinned (OpenSpec.upto fnExactSmoothWindsSpec)

/-- 'laws.FnExactGustFactor', WHERE WHAT IT READS IS OF BULK AT MOST 1048576: true; the input reads as it did. -/
def fnExactGustFactorUptoRow : OpenClaim := { program := "yteligfbbofgonaa", sum := "6f6fdcfdd198aea2e8b2fdc911f3c9012f7f152a2ba23f1339f7f7625a4be612", func := "loop.example/g01256/laws.FnExactGustFactor", spec := "fnExactGustFactor", inPlace := ["math.Float64bits", "math.Float64frombits"], unfollowed := true, recurses := true, apart := false, narrowed := true }
def FnExactGustFactorUptoSaid : Prop := fnExactGustFactorUptoRow.holds Try.pinned (OpenSpec.upto fnExactGustFactorSpec)

/-- 'laws.FnExactBinsOfWinds', WHERE WHAT IT READS IS OF BULK AT MOST 1048576: true; the input reads as it did. -/
def fnExactBinsOfWindsUptoRow : OpenClaim := { program := "yteligfbbofgonaa", sum := "6f6fdcfdd198aea2e8b2fdc911f3c9012f7f152a2ba23f1339f7f7625a4be612", func := "loop.example/g01256/laws.FnExactBinsOfWinds", spec := "fnExactBinsOfWinds", inPlace := ["math.archFloor", "math.Float64bits", "math.Float64frombits", "math.archTrunc"], unfollowed := true, recurses := true, apart := false, narrowed := true }
def FnExactBinsOfWindsUptoSaid : Prop := fnExactBinsOfWindsUptoRow.holds Try.pinned (OpenSpec.upto fnExactBinsOfWindsSpec)

end Rows
end Go.Proofs.Yteligfbbofgonaa
