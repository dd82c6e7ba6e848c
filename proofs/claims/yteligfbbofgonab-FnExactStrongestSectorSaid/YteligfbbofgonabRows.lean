/-
  No cell of these rows narrows 'for every input' (looked for: loops, veiled, ifaces, maps, wideKeys, modest, calm, conditions, laid).
  DERIVED. THE GIVEN ROWS OF THIS SEAT. 12 by the template 'for every input the law returns true; each argument reads behind the call as it read before'; 0 by the template 'total and deterministic' (their statements: YteligfbbofgonabTotals.lean).
  GIVEN WITH THE SEED: the statements are not yours to turn. If you find one false, say at which input.
  Laid BY PROGRAM, IN A SANDBOX (cutbox-rows.mjs): the forced cells as the released guide's own fill.sh prints them over the translation 588903ecf997f4da… (all of the seat's roots in one cut). By AI agents, Wed Nov 11 2026. No macro, syntax, notation, axiom, sorry.
-/
import Derived.Test.YteligfbbofgonabChecked
import GoSem.Claim
import GoSem.ClaimJoined
import GoSem.ClaimMapViews
import Derived.JoinedTies
import Derived.KernelRfl
namespace Go.Proofs.Yteligfbbofgonab
/- THE CELL 'sum', in the pinned program and in every row, IS THE sha256 OF THE DUMP (.gsa) THAT YteligfbbofgonabProg.lean LOADS. Nothing in Lean hashes anything: it is a label: what it is worth is what the hold of that sum in a sandbox is worth. -/
noncomputable def Try.pinned : Pinned := { name := "yteligfbbofgonab", sum := "588903ecf997f4dadec64a0c842917f57ea40b3623b2ffa28f812b675f82b793", checked := Try.checked }
namespace Rows
def none {H : Type} : Left H := { results := [], args := [] }

/-- 'laws.FnExactValidRose': WHATEVER THE INPUT: true; the input reads as it did. -/
def fnExactValidRoseSpec : ChangeSpec := { name := "fnExactValidRose", fn := fun _ => fun
  | [d] => { results := [.lit (.bool true)], args := [d] }
  | _ => none }
def fnExactValidRoseRow : OpenClaim := { program := "yteligfbbofgonab", sum := "588903ecf997f4dadec64a0c842917f57ea40b3623b2ffa28f812b675f82b793", func := "loop.example/g01256/laws.FnExactValidRose", spec := "fnExactValidRose", inPlace := ["math.Float64bits", "math.Float64frombits"], unfollowed := true, recurses := true, apart := false }
def FnExactValidRoseSaid : Prop := fnExactValidRoseRow.holds Try.pinned (OpenSpec.ofChange fnExactValidRoseSpec)

/-- ITS FALSE NEIGHBOUR: 'it returns false'. Refute it at one input. -/
def fnExactValidRoseWrong : ChangeSpec := { name := "fnExactValidRose", fn := fun _ => fun
  | [d] => { results := [.lit (.bool false)], args := [d] }
  | _ => none }
def FnExactValidRoseWrongFalsely : Prop := fnExactValidRoseRow.holds Try.pinned (OpenSpec.ofChange fnExactValidRoseWrong)

/-- 'laws.FnExactSameRose': WHATEVER THE INPUT: true; the input reads as it did. -/
def fnExactSameRoseSpec : ChangeSpec := { name := "fnExactSameRose", fn := fun _ => fun
  | [d1, d2] => { results := [.lit (.bool true)], args := [d1, d2] }
  | _ => none }
def fnExactSameRoseRow : OpenClaim := { program := "yteligfbbofgonab", sum := "588903ecf997f4dadec64a0c842917f57ea40b3623b2ffa28f812b675f82b793", func := "loop.example/g01256/laws.FnExactSameRose", spec := "fnExactSameRose", inPlace := ["math.Float32bits"], unfollowed := true, recurses := true, apart := false }
def FnExactSameRoseSaid : Prop := fnExactSameRoseRow.holds Try.pinned (OpenSpec.ofChange fnExactSameRoseSpec)

/-- ITS FALSE NEIGHBOUR: 'it returns false'. Refute it at one input. -/
def fnExactSameRoseWrong : ChangeSpec := { name := "fnExactSameRose", fn := fun _ => fun
  | [d1, d2] => { results := [.lit (.bool false)], args := [d1, d2] }
  | _ => none }
def FnExactSameRoseWrongFalsely : Prop := fnExactSameRoseRow.holds Try.pinned (OpenSpec.ofChange fnExactSameRoseWrong)

/-- 'laws.FnExactMeanOfRose': WHATEVER THE INPUT: true; the input reads as it did. -/
def fnExactMeanOfRoseSpec : ChangeSpec := { name := "fnExactMeanOfRose", fn := fun _ => fun
  | [d] => { results := [.lit (.bool true)], args := [d] }
  | _ => none }
def fnExactMeanOfRoseRow : OpenClaim := { program := "yteligfbbofgonab", sum := "588903ecf997f4dadec64a0c842917f57ea40b3623b2ffa28f812b675f82b793", func := "loop.example/g01256/laws.FnExactMeanOfRose", spec := "fnExactMeanOfRose", inPlace := ["math.Float64bits", "math.Float64frombits"], unfollowed := true, recurses := true, apart := false }
def FnExactMeanOfRoseSaid : Prop := fnExactMeanOfRoseRow.holds Try.pinned (OpenSpec.ofChange fnExactMeanOfRoseSpec)

/-- ITS FALSE NEIGHBOUR: 'it returns false'. Refute it at one input. -/
def fnExactMeanOfRoseWrong : ChangeSpec := { name := "fnExactMeanOfRose", fn := fun _ => fun
  | [d] => { results := [.lit (.bool false)], args := [d] }
  | _ => none }
def FnExactMeanOfRoseWrongFalsely : Prop := fnExactMeanOfRoseRow.holds Try.pinned (OpenSpec.ofChange fnExactMeanOfRoseWrong)

/-- 'laws.FnExactPowerOfRose': WHATEVER THE INPUT: true; the input reads as it did. -/
def fnExactPowerOfRoseSpec : ChangeSpec := { name := "fnExactPowerOfRose", fn := fun _ => fun
  | [d1, d2] => { results := [.lit (.bool true)], args := [d1, d2] }
  | _ => none }
def fnExactPowerOfRoseRow : OpenClaim := { program := "yteligfbbofgonab", sum := "588903ecf997f4dadec64a0c842917f57ea40b3623b2ffa28f812b675f82b793", func := "loop.example/g01256/laws.FnExactPowerOfRose", spec := "fnExactPowerOfRose", inPlace := ["math.Float64bits", "math.Float64frombits"], unfollowed := true, recurses := true, apart := false }
def FnExactPowerOfRoseSaid : Prop := fnExactPowerOfRoseRow.holds Try.pinned (OpenSpec.ofChange fnExactPowerOfRoseSpec)

/-- ITS FALSE NEIGHBOUR: 'it returns false'. Refute it at one input. -/
def fnExactPowerOfRoseWrong : ChangeSpec := { name := "fnExactPowerOfRose", fn := fun _ => fun
  | [d1, d2] => { results := [.lit (.bool false)], args := [d1, d2] }
  | _ => none }
def FnExactPowerOfRoseWrongFalsely : Prop := fnExactPowerOfRoseRow.holds Try.pinned (OpenSpec.ofChange fnExactPowerOfRoseWrong)

/-- 'laws.FnExactStrongestSector': WHATEVER THE INPUT: true; the input reads as it did. -/
def fnExactStrongestSectorSpec : ChangeSpec := { name := "fnExactStrongestSector", fn := fun _ => fun
  | [d] => { results := [.lit (.bool true)], args := [d] }
  | _ => none }
def fnExactStrongestSectorRow : OpenClaim := { program := "yteligfbbofgonab", sum := "588903ecf997f4dadec64a0c842917f57ea40b3623b2ffa28f812b675f82b793", func := "loop.example/g01256/laws.FnExactStrongestSector", spec := "fnExactStrongestSector", inPlace := ["math.Float64bits", "math.Float64frombits"], unfollowed := true, recurses := true, apart := false }
def FnExactStrongestSectorSaid : Prop := fnExactStrongestSectorRow.holds Try.pinned (OpenSpec.ofChange fnExactStrongestSectorSpec)

/-- ITS FALSE NEIGHBOUR: 'it returns false'. Refute it at one input. -/
def fnExactStrongestSectorWrong : ChangeSpec := { name := "fnExactStrongestSector", fn := fun _ => fun
  | [d] => { results := [.lit (.bool false)], args := [d] }
  | _ => none }
def FnExactStrongestSectorWrongFalsely : Prop := fnExactStrongestSectorRow.holds Try.pinned (OpenSpec.ofChange fnExactStrongestSectorWrong)

/-- 'laws.FnExactEvenRose': WHATEVER THE INPUT: true; the input reads as it did. -/
def fnExactEvenRoseSpec : ChangeSpec := { name := "fnExactEvenRose", fn := fun _ => fun
  | [d1, d2] => { results := [.lit (.bool true)], args := [d1, d2] }
  | _ => none }
def fnExactEvenRoseRow : OpenClaim := { program := "yteligfbbofgonab", sum := "588903ecf997f4dadec64a0c842917f57ea40b3623b2ffa28f812b675f82b793", func := "loop.example/g01256/laws.FnExactEvenRose", spec := "fnExactEvenRose", inPlace := ["math.Float64bits", "math.Float64frombits"], unfollowed := true, recurses := true, apart := false }
def FnExactEvenRoseSaid : Prop := fnExactEvenRoseRow.holds Try.pinned (OpenSpec.ofChange fnExactEvenRoseSpec)

/-- ITS FALSE NEIGHBOUR: 'it returns false'. Refute it at one input. -/
def fnExactEvenRoseWrong : ChangeSpec := { name := "fnExactEvenRose", fn := fun _ => fun
  | [d1, d2] => { results := [.lit (.bool false)], args := [d1, d2] }
  | _ => none }
def FnExactEvenRoseWrongFalsely : Prop := fnExactEvenRoseRow.holds Try.pinned (OpenSpec.ofChange fnExactEvenRoseWrong)

/-- 'laws.FnExactNormRose': WHATEVER THE INPUT: true; the input reads as it did. -/
def fnExactNormRoseSpec : ChangeSpec := { name := "fnExactNormRose", fn := fun _ => fun
  | [d] => { results := [.lit (.bool true)], args := [d] }
  | _ => none }
def fnExactNormRoseRow : OpenClaim := { program := "yteligfbbofgonab", sum := "588903ecf997f4dadec64a0c842917f57ea40b3623b2ffa28f812b675f82b793", func := "loop.example/g01256/laws.FnExactNormRose", spec := "fnExactNormRose", inPlace := ["math.Float64bits", "math.Float64frombits"], unfollowed := true, recurses := true, apart := false }
def FnExactNormRoseSaid : Prop := fnExactNormRoseRow.holds Try.pinned (OpenSpec.ofChange fnExactNormRoseSpec)

/-- ITS FALSE NEIGHBOUR: 'it returns false'. Refute it at one input. -/
def fnExactNormRoseWrong : ChangeSpec := { name := "fnExactNormRose", fn := fun _ => fun
  | [d] => { results := [.lit (.bool false)], args := [d] }
  | _ => none }
def FnExactNormRoseWrongFalsely : Prop := fnExactNormRoseRow.holds Try.pinned (OpenSpec.ofChange fnExactNormRoseWrong)

/-- 'laws.FnExactTurnRose': WHATEVER THE INPUT: true; the input reads as it did. -/
def fnExactTurnRoseSpec : ChangeSpec := { name := "fnExactTurnRose", fn := fun _ => fun
  | [d1, d2] => { results := [.lit (.bool true)], args := [d1, d2] }
  | _ => none }
def fnExactTurnRoseRow : OpenClaim := { program := "yteligfbbofgonab", sum := "588903ecf997f4dadec64a0c842917f57ea40b3623b2ffa28f812b675f82b793", func := "loop.example/g01256/laws.FnExactTurnRose", spec := "fnExactTurnRose", inPlace := ["math.Float64bits", "math.Float64frombits"], unfollowed := true, recurses := true, apart := false }
def FnExactTurnRoseSaid : Prop := fnExactTurnRoseRow.holds Try.pinned (OpenSpec.ofChange fnExactTurnRoseSpec)

/-- ITS FALSE NEIGHBOUR: 'it returns false'. Refute it at one input. -/
def fnExactTurnRoseWrong : ChangeSpec := { name := "fnExactTurnRose", fn := fun _ => fun
  | [d1, d2] => { results := [.lit (.bool false)], args := [d1, d2] }
  | _ => none }
def FnExactTurnRoseWrongFalsely : Prop := fnExactTurnRoseRow.holds Try.pinned (OpenSpec.ofChange fnExactTurnRoseWrong)

/-- 'laws.FnExactMixRoses': WHATEVER THE INPUT: true; the input reads as it did. -/
def fnExactMixRosesSpec : ChangeSpec := { name := "fnExactMixRoses", fn := fun _ => fun
  | [d1, d2, d3] => { results := [.lit (.bool true)], args := [d1, d2, d3] }
  | _ => none }
def fnExactMixRosesRow : OpenClaim := { program := "yteligfbbofgonab", sum := "588903ecf997f4dadec64a0c842917f57ea40b3623b2ffa28f812b675f82b793", func := "loop.example/g01256/laws.FnExactMixRoses", spec := "fnExactMixRoses", inPlace := ["math.Float64bits", "math.Float64frombits"], unfollowed := true, recurses := true, apart := false }
def FnExactMixRosesSaid : Prop := fnExactMixRosesRow.holds Try.pinned (OpenSpec.ofChange fnExactMixRosesSpec)

/-- ITS FALSE NEIGHBOUR: 'it returns false'. Refute it at one input. -/
def fnExactMixRosesWrong : ChangeSpec := { name := "fnExactMixRoses", fn := fun _ => fun
  | [d1, d2, d3] => { results := [.lit (.bool false)], args := [d1, d2, d3] }
  | _ => none }
def FnExactMixRosesWrongFalsely : Prop := fnExactMixRosesRow.holds Try.pinned (OpenSpec.ofChange fnExactMixRosesWrong)

/-- 'laws.FnExactRoseOf': WHATEVER THE INPUT: true; the input reads as it did. -/
def fnExactRoseOfSpec : ChangeSpec := { name := "fnExactRoseOf", fn := fun _ => fun
  | [d1, d2, d3] => { results := [.lit (.bool true)], args := [d1, d2, d3] }
  | _ => none }
def fnExactRoseOfRow : OpenClaim := { program := "yteligfbbofgonab", sum := "588903ecf997f4dadec64a0c842917f57ea40b3623b2ffa28f812b675f82b793", func := "loop.example/g01256/laws.FnExactRoseOf", spec := "fnExactRoseOf", inPlace := ["math.archFloor", "math.Float64bits", "math.Float64frombits", "math.archTrunc"], unfollowed := true, recurses := true, apart := false }
def FnExactRoseOfSaid : Prop := fnExactRoseOfRow.holds Try.pinned (OpenSpec.ofChange fnExactRoseOfSpec)

/-- ITS FALSE NEIGHBOUR: 'it returns false'. Refute it at one input. -/
def fnExactRoseOfWrong : ChangeSpec := { name := "fnExactRoseOf", fn := fun _ => fun
  | [d1, d2, d3] => { results := [.lit (.bool false)], args := [d1, d2, d3] }
  | _ => none }
def FnExactRoseOfWrongFalsely : Prop := fnExactRoseOfRow.holds Try.pinned (OpenSpec.ofChange fnExactRoseOfWrong)

/-- 'laws.FnExactGustsOf': WHATEVER THE INPUT: true; the input reads as it did. -/
def fnExactGustsOfSpec : ChangeSpec := { name := "fnExactGustsOf", fn := fun _ => fun
  | [d1, d2, d3, d4, d5, d6] => { results := [.lit (.bool true)], args := [d1, d2, d3, d4, d5, d6] }
  | _ => none }
def fnExactGustsOfRow : OpenClaim := { program := "yteligfbbofgonab", sum := "588903ecf997f4dadec64a0c842917f57ea40b3623b2ffa28f812b675f82b793", func := "loop.example/g01256/laws.FnExactGustsOf", spec := "fnExactGustsOf", inPlace := ["math.Float64bits", "math.Float64frombits"], apart := false }
def FnExactGustsOfSaid : Prop := fnExactGustsOfRow.holds Try.pinned (OpenSpec.ofChange fnExactGustsOfSpec)

/-- ITS FALSE NEIGHBOUR: 'it returns false'. Refute it at one input. -/
def fnExactGustsOfWrong : ChangeSpec := { name := "fnExactGustsOf", fn := fun _ => fun
  | [d1, d2, d3, d4, d5, d6] => { results := [.lit (.bool false)], args := [d1, d2, d3, d4, d5, d6] }
  | _ => none }
def FnExactGustsOfWrongFalsely : Prop := fnExactGustsOfRow.holds Try.pinned (OpenSpec.ofChange fnExactGustsOfWrong)

/-- 'laws.FnExactDiscPower': WHATEVER THE INPUT: true; the input reads as it did. -/
def fnExactDiscPowerSpec : ChangeSpec := { name := "fnExactDiscPower", fn := fun _ => fun
  | [d1, d2, d3, d4] => { results := [.lit (.bool true)], args := [d1, d2, d3, d4] }
  | _ => none }
def fnExactDiscPowerRow : OpenClaim := { program := "yteligfbbofgonab", sum := "588903ecf997f4dadec64a0c842917f57ea40b3623b2ffa28f812b675f82b793", func := "loop.example/g01256/laws.FnExactDiscPower", spec := "fnExactDiscPower", inPlace := ["math.sqrt", "math.Float64bits", "math.Float64frombits"], unfollowed := true, recurses := true, apart := false }
def FnExactDiscPowerSaid : Prop := fnExactDiscPowerRow.holds Try.pinned (OpenSpec.ofChange fnExactDiscPowerSpec)

/-- ITS FALSE NEIGHBOUR: 'it returns false'. Refute it at one input. -/
def fnExactDiscPowerWrong : ChangeSpec := { name := "fnExactDiscPower", fn := fun _ => fun
  | [d1, d2, d3, d4] => { results := [.lit (.bool false)], args := [d1, d2, d3, d4] }
  | _ => none }
def FnExactDiscPowerWrongFalsely : Prop := fnExactDiscPowerRow.holds Try.pinned (OpenSpec.ofChange fnExactDiscPowerWrong)

/- THE SECOND FORM. 'bulk': how many values and letters a reading holds, each counted each time it is reached (what is shared counts as often as it is met; a slice's spare places count too). A statement '..UptoSaid' is the law's where the arguments, and the package variables that the reading takes, are together of bulk at most 1048576: NARROWER than '..Said'. Prove '..Said' where nothing that the law and all that it calls make is longer than what came in: it says more and counts as full. Else prove '..UptoSaid'. A law counts once. -/
mutual
def uptoBulk {H : Type} : DataW H → Nat
  | .lit (.string bytes) => bytes.length + 1
  | .lit _ => 1
  | .nil => 1
  | .ptr d => uptoBulk d + 1
  | .slice elems spare => uptoBulkAll elems + uptoBulkAll spare + 1
  | .agg parts => uptoBulkAll parts + 1
  | .iface _ d => uptoBulk d + 1
  | .map entries => uptoBulkEntries entries + 1
  | .held _ => 1
def uptoBulkAll {H : Type} : List (DataW H) → Nat
  | [] => 0
  | d :: r => uptoBulk d + uptoBulkAll r
def uptoBulkEntries {H : Type} : List (Lit × DataW H) → Nat
  | [] => 0
  | x :: r => uptoBulkEntry x + uptoBulkEntries r
def uptoBulkEntry {H : Type} : Lit × DataW H → Nat
  | (.string bytes, d) => bytes.length + uptoBulk d + 1
  | (_, d) => uptoBulk d + 1
 end
def uptoSmall : (H : Type) → List (DataW H) → Bool := fun _ ds => decide (uptoBulkAll ds ≤ 1048576)
def OpenSpec.upto (s : _root_.Go.ChangeSpec) : _root_.Go.OpenSpec := { _root_.Go.OpenSpec.ofChange s with cond := some uptoSmall }

/-- 'laws.FnExactValidRose', WHERE WHAT IT READS IS OF BULK AT MOST 1048576: true; the input reads as it did. -/
def fnExactValidRoseUptoRow : OpenClaim := { program := "yteligfbbofgonab", sum := "588903ecf997f4dadec64a0c842917f57ea40b3623b2ffa28f812b675f82b793", func := "loop.example/g01256/laws.FnExactValidRose", spec := "fnExactValidRose", inPlace := ["math.Float64bits", "math.Float64frombits"], unfollowed := true, recurses := true, apart := false, narrowed := true }
def FnExactValidRoseUptoSaid : Prop := fnExactValidRoseUptoRow.holds Try.pinned (OpenSpec.upto fnExactValidRoseSpec)

/-- 'laws.FnExactSameRose', WHERE WHAT IT READS IS OF BULK AT MOST 1048576: true; the input reads as it did. -/
def fnExactSameRoseUptoRow : OpenClaim := { program := "yteligfbbofgonab", sum := "588903ecf997f4dadec64a0c842917f57ea40b3623b2ffa28f812b675f82b793", func := "loop.example/g01256/laws.FnExactSameRose", spec := "fnExactSameRose", inPlace := ["math.Float32bits"], unfollowed := true, recurses := true, apart := false, narrowed := true }
def FnExactSameRoseUptoSaid : Prop := fnExactSameRoseUptoRow.holds Try.pinned (OpenSpec.upto fnExactSameRoseSpec)

/-- 'laws.FnExactMeanOfRose', WHERE WHAT IT READS IS OF BULK AT MOST 1048576: true; the input reads as it did. -/
def fnExactMeanOfRoseUptoRow : OpenClaim := { program := "yteligfbbofgonab", sum := "588903ecf997f4dadec64a0c842917f57ea40b3623b2ffa28f812b675f82b793", func := "loop.example/g01256/laws.FnExactMeanOfRose", spec := "fnExactMeanOfRose", inPlace := ["math.Float64bits", "math.Float64frombits"], unfollowed := true, recurses := true, apart := false, narrowed := true }
def FnExactMeanOfRoseUptoSaid : Prop := fnExactMeanOfRoseUptoRow.holds Try.pinned (OpenSpec.upto fnExactMeanOfRoseSpec)

/-- 'laws.FnExactPowerOfRose', WHERE WHAT IT READS IS OF BULK AT MOST 1048576: true; the input reads as it did. -/
def fnExactPowerOfRoseUptoRow : OpenClaim := { program := "yteligfbbofgonab", sum := "588903ecf997f4dadec64a0c842917f57ea40b3623b2ffa28f812b675f82b793", func := "loop.example/g01256/laws.FnExactPowerOfRose", spec := "fnExactPowerOfRose", inPlace := ["math.Float64bits", "math.Float64frombits"], unfollowed := true, recurses := true, apart := false, narrowed := true }
def FnExactPowerOfRoseUptoSaid : Prop := fnExactPowerOfRoseUptoRow.holds Try.pinned (OpenSpec.upto fnExactPowerOfRoseSpec)

/-- 'laws.FnExactStrongestSector', WHERE WHAT IT READS IS OF BULK AT MOST 1048576: true; the input reads as it did. -/
def fnExactStrongestSectorUptoRow : OpenClaim := { program := "yteligfbbofgonab", sum := "588903ecf997f4dadec64a0c842917f57ea40b3623b2ffa28f812b675f82b793", func := "loop.example/g01256/laws.FnExactStrongestSector", spec := "fnExactStrongestSector", inPlace := ["math.Float64bits", "math.Float64frombits"], unfollowed := true, recurses := true, apart := false, narrowed := true }
def FnExactStrongestSectorUptoSaid : Prop := fnExactStrongestSectorUptoRow.holds Try.pinned (OpenSpec.upto fnExactStrongestSectorSpec)

/-- 'laws.FnExactEvenRose', WHERE WHAT IT READS IS OF BULK AT MOST 1048576: true; the input reads as it did. -/
def fnExactEvenRoseUptoRow : OpenClaim := { program := "yteligfbbofgonab", sum := "588903ecf997f4dadec64a0c842917f57ea40b3623b2ffa28f812b675f82b793", func := "loop.example/g01256/laws.FnExactEvenRose", spec := "fnExactEvenRose", inPlace := ["math.Float64bits", "math.Float64frombits"], unfollowed := true, recurses := true, apart := false, narrowed := true }
def FnExactEvenRoseUptoSaid : Prop := fnExactEvenRoseUptoRow.holds Try.pinned (OpenSpec.upto fnExactEvenRoseSpec)

/-- 'laws.FnExactNormRose', WHERE WHAT IT READS IS OF BULK AT MOST 1048576: true; the input reads as it did. -/
def fnExactNormRoseUptoRow : OpenClaim := { program := "yteligfbbofgonab", sum := "588903ecf997f4dadec64a0c842917f57ea40b3623b2ffa28f812b675f82b793", func := "loop.example/g01256/laws.FnExactNormRose", spec := "fnExactNormRose", inPlace := ["math.Float64bits", "math.Float64frombits"], unfollowed := true, recurses := true, apart := false, narrowed := true }
def FnExactNormRoseUptoSaid : Prop := fnExactNormRoseUptoRow.holds Try.pinned (OpenSpec.upto fnExactNormRoseSpec)

/-- 'laws.FnExactTurnRose', WHERE WHAT IT READS IS OF BULK AT MOST 1048576: true; the input reads as it did. -/
def fnExactTurnRoseUptoRow : OpenClaim := { program := "yteligfbbofgonab", sum := "588903ecf997f4dadec64a0c842917f57ea40b3623b2ffa28f812b675f82b793", func := "loop.example/g01256/laws.FnExactTurnRose", spec := "fnExactTurnRose", inPlace := ["math.Float64bits", "math.Float64frombits"], unfollowed := true, recurses := true, apart := false, narrowed := true }
def FnExactTurnRoseUptoSaid : Prop := fnExactTurnRoseUptoRow.holds Try.pinned (OpenSpec.upto fnExactTurnRoseSpec)

/-- 'laws.FnExactMixRoses', WHERE WHAT IT READS IS OF BULK AT MOST 1048576: true; the input reads as it did. -/
def fnExactMixRosesUptoRow : OpenClaim := { program := "yteligfbbofgonab", sum := "588903ecf997f4dadec64a0c842917f57ea40b3623b2ffa28f812b675f82b793", func := "loop.example/g01256/laws.FnExactMixRoses", spec := "fnExactMixRoses", inPlace := ["math.Float64bits", "math.Float64frombits"], unfollowed := true, recurses := true, apart := false, narrowed := true }
def FnExactMixRosesUptoSaid : Prop := fnExactMixRosesUptoRow.holds Try.pinned (OpenSpec.upto fnExactMixRosesSpec)

/-- 'laws.FnExactRoseOf', WHERE WHAT IT READS IS OF BULK AT MOST 1048576: true; the input reads as it did. -/
def fnExactRoseOfUptoRow : OpenClaim := { program := "yteligfbbofgonab", sum := "588903ecf997f4dadec64a0c842917f57ea40b3623b2ffa28f812b675f82b793", func := "loop.example/g01256/laws.FnExactRoseOf", spec := "fnExactRoseOf", inPlace := ["math.archFloor", "math.Float64bits", "math.Float64frombits", "math.archTrunc"], unfollowed := true, recurses := true, apart := false, narrowed := true }
def FnExactRoseOfUptoSaid : Prop := fnExactRoseOfUptoRow.holds Try.pinned (OpenSpec.upto fnExactRoseOfSpec)

/-- 'laws.FnExactGustsOf', WHERE WHAT IT READS IS OF BULK AT MOST 1048576: true; the input reads as it did. -/
def fnExactGustsOfUptoRow : OpenClaim := { program := "yteligfbbofgonab", sum := "588903ecf997f4dadec64a0c842917f57ea40b3623b2ffa28f812b675f82b793", func := "loop.example/g01256/laws.FnExactGustsOf", spec := "fnExactGustsOf", inPlace := ["math.Float64bits", "math.Float64frombits"], apart := false, narrowed := true }
def FnExactGustsOfUptoSaid : Prop := fnExactGustsOfUptoRow.holds Try.pinned (OpenSpec.upto fnExactGustsOfSpec)

/-- 'laws.FnExactDiscPower', WHERE WHAT IT READS IS OF BULK AT MOST 1048576: true; the input reads as it did. -/
def fnExactDiscPowerUptoRow : OpenClaim := { program := "yteligfbbofgonab", sum := "588903ecf997f4dadec64a0c842917f57ea40b3623b2ffa28f812b675f82b793", func := "loop.example/g01256/laws.FnExactDiscPower", spec := "fnExactDiscPower", inPlace := ["math.sqrt", "math.Float64bits", "math.Float64frombits"], unfollowed := true, recurses := true, apart := false, narrowed := true }
def FnExactDiscPowerUptoSaid : Prop := fnExactDiscPowerUptoRow.holds Try.pinned (OpenSpec.upto fnExactDiscPowerSpec)

end Rows
end Go.Proofs.Yteligfbbofgonab
