/-
  No cell of these rows narrows 'for every input' (looked for: loops, veiled, ifaces, maps, wideKeys, modest, calm, conditions, laid).
  DERIVED. THE GIVEN ROWS OF THIS SEAT. 7 by the template 'for every input the law returns true; each argument reads behind the call as it read before'; 0 by the template 'total and deterministic' (their statements: YtpmjikchlofebaaTotals.lean).
  GIVEN WITH THE SEED: the statements are not yours to turn. If you find one false, say at which input.
  Laid BY PROGRAM, IN A SANDBOX (cutbox-rows.mjs): the forced cells as the released guide's own fill.sh prints them over the translation 2d98ab82fcd82467… (all of the seat's roots in one cut). By AI agents, Wed Nov 11 2026. No macro, syntax, notation, axiom, sorry.
-/
import Derived.Test.YtpmjikchlofebaaChecked
import GoSem.Claim
import GoSem.ClaimJoined
import GoSem.ClaimMapViews
import Derived.JoinedTies
import Derived.KernelRfl
namespace Go.Proofs.Ytpmjikchlofebaa
/- THE CELL 'sum', in the pinned program and in every row, IS THE sha256 OF THE DUMP (.gsa) THAT YtpmjikchlofebaaProg.lean LOADS. Nothing in Lean hashes anything: it is a label: what it is worth is what the hold of that sum in a sandbox is worth. -/
noncomputable def Try.pinned : Pinned := { name := "ytpmjikchlofebaa", sum := "2d98ab82fcd82467e1399592ce644bdfd7afb2b876ed43a5b1f6fc7798e5504d", checked := Try.checked }
namespace Rows
def none {H : Type} : Left H := { results := [], args := [] }

/-- 'laws.FnExactDiscPower': WHATEVER THE INPUT: true; the input reads as it did. -/
def fnExactDiscPowerSpec : ChangeSpec := { name := "fnExactDiscPower", fn := fun _ => fun
  | [d1, d2, d3, d4] => { results := [.lit (.bool true)], args := [d1, d2, d3, d4] }
  | _ => none }
def fnExactDiscPowerRow : OpenClaim := { program := "ytpmjikchlofebaa", sum := "2d98ab82fcd82467e1399592ce644bdfd7afb2b876ed43a5b1f6fc7798e5504d", func := "loop.example/g01256/laws.FnExactDiscPower", spec := "fnExactDiscPower", inPlace := ["math.sqrt", "math.Float64bits", "math.Float64frombits"], unfollowed := true, recurses := true, apart := false }
def FnExactDiscPowerSaid : Prop := fnExactDiscPowerRow.holds Try.pinned (OpenSpec.ofChange fnExactDiscPowerSpec)

/-- ITS FALSE NEIGHBOUR: 'it returns false'. Refute it at one input. -/
def fnExactDiscPowerWrong : ChangeSpec := { name := "fnExactDiscPower", fn := fun _ => fun
  | [d1, d2, d3, d4] => { results := [.lit (.bool false)], args := [d1, d2, d3, d4] }
  | _ => none }
def FnExactDiscPowerWrongFalsely : Prop := fnExactDiscPowerRow.holds Try.pinned (OpenSpec.ofChange fnExactDiscPowerWrong)

/-- 'laws.FnExactRoseOf': WHATEVER THE INPUT: true; the input reads as it did. -/
def fnExactRoseOfSpec : ChangeSpec := { name := "fnExactRoseOf", fn := fun _ => fun
  | [d1, d2, d3] => { results := [.lit (.bool true)], args := [d1, d2, d3] }
  | _ => none }
def fnExactRoseOfRow : OpenClaim := { program := "ytpmjikchlofebaa", sum := "2d98ab82fcd82467e1399592ce644bdfd7afb2b876ed43a5b1f6fc7798e5504d", func := "loop.example/g01256/laws.FnExactRoseOf", spec := "fnExactRoseOf", inPlace := ["math.archFloor", "math.Float64bits", "math.Float64frombits", "math.archTrunc"], unfollowed := true, recurses := true, apart := false }
def FnExactRoseOfSaid : Prop := fnExactRoseOfRow.holds Try.pinned (OpenSpec.ofChange fnExactRoseOfSpec)

/-- ITS FALSE NEIGHBOUR: 'it returns false'. Refute it at one input. -/
def fnExactRoseOfWrong : ChangeSpec := { name := "fnExactRoseOf", fn := fun _ => fun
  | [d1, d2, d3] => { results := [.lit (.bool false)], args := [d1, d2, d3] }
  | _ => none }
def FnExactRoseOfWrongFalsely : Prop := fnExactRoseOfRow.holds Try.pinned (OpenSpec.ofChange fnExactRoseOfWrong)

/-- 'laws.FnExactBestMove': WHATEVER THE INPUT: true; the input reads as it did. -/
def fnExactBestMoveSpec : ChangeSpec := { name := "fnExactBestMove", fn := fun _ => fun
  | [d1, d2, d3, d4, d5, d6] => { results := [.lit (.bool true)], args := [d1, d2, d3, d4, d5, d6] }
  | _ => none }
def fnExactBestMoveRow : OpenClaim := { program := "ytpmjikchlofebaa", sum := "2d98ab82fcd82467e1399592ce644bdfd7afb2b876ed43a5b1f6fc7798e5504d", func := "loop.example/g01256/laws.FnExactBestMove", spec := "fnExactBestMove", inPlace := ["math.Float64frombits", "math.sqrt", "math.Float64bits"], unfollowed := true, recurses := true, apart := false }
def FnExactBestMoveSaid : Prop := fnExactBestMoveRow.holds Try.pinned (OpenSpec.ofChange fnExactBestMoveSpec)

/-- ITS FALSE NEIGHBOUR: 'it returns false'. Refute it at one input. -/
def fnExactBestMoveWrong : ChangeSpec := { name := "fnExactBestMove", fn := fun _ => fun
  | [d1, d2, d3, d4, d5, d6] => { results := [.lit (.bool false)], args := [d1, d2, d3, d4, d5, d6] }
  | _ => none }
def FnExactBestMoveWrongFalsely : Prop := fnExactBestMoveRow.holds Try.pinned (OpenSpec.ofChange fnExactBestMoveWrong)

/-- 'laws.FnExactImproveFarm': WHATEVER THE INPUT: true; the input reads as it did. -/
def fnExactImproveFarmSpec : ChangeSpec := { name := "fnExactImproveFarm", fn := fun _ => fun
  | [d1, d2, d3, d4, d5, d6] => { results := [.lit (.bool true)], args := [d1, d2, d3, d4, d5, d6] }
  | _ => none }
def fnExactImproveFarmRow : OpenClaim := { program := "ytpmjikchlofebaa", sum := "2d98ab82fcd82467e1399592ce644bdfd7afb2b876ed43a5b1f6fc7798e5504d", func := "loop.example/g01256/laws.FnExactImproveFarm", spec := "fnExactImproveFarm", inPlace := ["math.Float64frombits", "math.sqrt", "math.Float64bits"], unfollowed := true, recurses := true, apart := false }
def FnExactImproveFarmSaid : Prop := fnExactImproveFarmRow.holds Try.pinned (OpenSpec.ofChange fnExactImproveFarmSpec)

/-- ITS FALSE NEIGHBOUR: 'it returns false'. Refute it at one input. -/
def fnExactImproveFarmWrong : ChangeSpec := { name := "fnExactImproveFarm", fn := fun _ => fun
  | [d1, d2, d3, d4, d5, d6] => { results := [.lit (.bool false)], args := [d1, d2, d3, d4, d5, d6] }
  | _ => none }
def FnExactImproveFarmWrongFalsely : Prop := fnExactImproveFarmRow.holds Try.pinned (OpenSpec.ofChange fnExactImproveFarmWrong)

/-- 'laws.FnExactWorstLoads': WHATEVER THE INPUT: true; the input reads as it did. -/
def fnExactWorstLoadsSpec : ChangeSpec := { name := "fnExactWorstLoads", fn := fun _ => fun
  | [d] => { results := [.lit (.bool true)], args := [d] }
  | _ => none }
def fnExactWorstLoadsRow : OpenClaim := { program := "ytpmjikchlofebaa", sum := "2d98ab82fcd82467e1399592ce644bdfd7afb2b876ed43a5b1f6fc7798e5504d", func := "loop.example/g01256/laws.FnExactWorstLoads", spec := "fnExactWorstLoads", inPlace := ["math.Float64bits", "math.Float64frombits"], unfollowed := true, recurses := true, apart := false }
def FnExactWorstLoadsSaid : Prop := fnExactWorstLoadsRow.holds Try.pinned (OpenSpec.ofChange fnExactWorstLoadsSpec)

/-- ITS FALSE NEIGHBOUR: 'it returns false'. Refute it at one input. -/
def fnExactWorstLoadsWrong : ChangeSpec := { name := "fnExactWorstLoads", fn := fun _ => fun
  | [d] => { results := [.lit (.bool false)], args := [d] }
  | _ => none }
def FnExactWorstLoadsWrongFalsely : Prop := fnExactWorstLoadsRow.holds Try.pinned (OpenSpec.ofChange fnExactWorstLoadsWrong)

/-- 'laws.FnExactSpectrumOfLoads': WHATEVER THE INPUT: true; the input reads as it did. -/
def fnExactSpectrumOfLoadsSpec : ChangeSpec := { name := "fnExactSpectrumOfLoads", fn := fun _ => fun
  | [d] => { results := [.lit (.bool true)], args := [d] }
  | _ => none }
def fnExactSpectrumOfLoadsRow : OpenClaim := { program := "ytpmjikchlofebaa", sum := "2d98ab82fcd82467e1399592ce644bdfd7afb2b876ed43a5b1f6fc7798e5504d", func := "loop.example/g01256/laws.FnExactSpectrumOfLoads", spec := "fnExactSpectrumOfLoads", inPlace := ["math.Float32frombits", "math.Float64frombits", "math.Float64bits"], unfollowed := true, recurses := true, apart := false }
def FnExactSpectrumOfLoadsSaid : Prop := fnExactSpectrumOfLoadsRow.holds Try.pinned (OpenSpec.ofChange fnExactSpectrumOfLoadsSpec)

/-- ITS FALSE NEIGHBOUR: 'it returns false'. Refute it at one input. -/
def fnExactSpectrumOfLoadsWrong : ChangeSpec := { name := "fnExactSpectrumOfLoads", fn := fun _ => fun
  | [d] => { results := [.lit (.bool false)], args := [d] }
  | _ => none }
def FnExactSpectrumOfLoadsWrongFalsely : Prop := fnExactSpectrumOfLoadsRow.holds Try.pinned (OpenSpec.ofChange fnExactSpectrumOfLoadsWrong)

/-- 'laws.FnExactCrossingsOf': WHATEVER THE INPUT: true; the input reads as it did. -/
def fnExactCrossingsOfSpec : ChangeSpec := { name := "fnExactCrossingsOf", fn := fun _ => fun
  | [d1, d2, d3] => { results := [.lit (.bool true)], args := [d1, d2, d3] }
  | _ => none }
def fnExactCrossingsOfRow : OpenClaim := { program := "ytpmjikchlofebaa", sum := "2d98ab82fcd82467e1399592ce644bdfd7afb2b876ed43a5b1f6fc7798e5504d", func := "loop.example/g01256/laws.FnExactCrossingsOf", spec := "fnExactCrossingsOf", inPlace := ["math.sqrt", "math.Float64bits", "math.Float64frombits"], unfollowed := true, recurses := true, apart := false }
def FnExactCrossingsOfSaid : Prop := fnExactCrossingsOfRow.holds Try.pinned (OpenSpec.ofChange fnExactCrossingsOfSpec)

/-- ITS FALSE NEIGHBOUR: 'it returns false'. Refute it at one input. -/
def fnExactCrossingsOfWrong : ChangeSpec := { name := "fnExactCrossingsOf", fn := fun _ => fun
  | [d1, d2, d3] => { results := [.lit (.bool false)], args := [d1, d2, d3] }
  | _ => none }
def FnExactCrossingsOfWrongFalsely : Prop := fnExactCrossingsOfRow.holds Try.pinned (OpenSpec.ofChange fnExactCrossingsOfWrong)

/- THE SECOND FORM. 'bulk': how many values and letters a reading holds, each counted each time it is reached (what is shared counts as often as it is met; a slice's spare places count too). A statement '..UptoSaid' is the law's where the arguments, and the package variables that the reading takes, are together of bulk at most 1048576: NARROWER than '..Said'. Prove '..Said' where nothing that the law and all that it calls make is longer than what came in: it says more and counts as full. Else prove '..UptoSaid'. A law counts once. -/
mutual
def uptoBulk {H : Type} : DataW H → Nat
  | .lit (.string bytes) => bytes.length + 1
  | .lit _ => 1
  | .nil => 1
  | .ptr d => uptoBulk d + 1
  | .slice elems spare => uptoBulkAll elems + uptoBulkAll spare + 1
  | .agg parts => uptoBulkAll parts + 1
  | .iface _ d => uptoBulk d + 1
  | .map entries => uptoBulkEntries entries + 1
  | .held _ => 1
def uptoBulkAll {H : Type} : List (DataW H) → Nat
  | [] => 0
  | d :: r => uptoBulk d + uptoBulkAll r
def uptoBulkEntries {H : Type} : List (Lit × DataW H) → Nat
  | [] => 0
  | x :: r => uptoBulkEntry x + uptoBulkEntries r
def uptoBulkEntry {H : Type} : Lit × DataW H → Nat
  | (.string bytes, d) => bytes.length + uptoBulk d + 1
  | (_, d) => uptoBulk d + 1
 end
def uptoSmall : (H : Type) → List (DataW H) → Bool := fun _ ds => decide (uptoBulkAll ds ≤ 1048576)
def OpenSpec.upto (s : _root_.Go.ChangeSpec) : _root_.Go.OpenSpec := { _root_.Go.OpenSpec.ofChange s with cond := some uptoSmall }

/-- 'laws.FnExactDiscPower', WHERE WHAT IT READS IS OF BULK AT MOST 1048576: true; the input reads as it did. -/
def fnExactDiscPowerUptoRow : OpenClaim := { program := "ytpmjikchlofebaa", sum := "2d98ab82fcd82467e1399592ce644bdfd7afb2b876ed43a5b1f6fc7798e5504d", func := "loop.example/g01256/laws.FnExactDiscPower", spec := "fnExactDiscPower", inPlace := ["math.sqrt", "math.Float64bits", "math.Float64frombits"], unfollowed := true, recurses := true, apart := false, narrowed := true }
def FnExactDiscPowerUptoSaid : Prop := fnExactDiscPowerUptoRow.holds Try.pinned (OpenSpec.upto fnExactDiscPowerSpec)

/-- 'laws.FnExactRoseOf', WHERE WHAT IT READS IS OF BULK AT MOST 1048576: true; the input reads as it did. -/
def fnExactRoseOfUptoRow : OpenClaim := { program := "ytpmjikchlofebaa", sum := "2d98ab82fcd82467e1399592ce644bdfd7afb2b876ed43a5b1f6fc7798e5504d", func := "loop.example/g01256/laws.FnExactRoseOf", spec := "fnExactRoseOf", inPlace := ["math.archFloor", "math.Float64bits", "math.Float64frombits", "math.archTrunc"], unfollowed := true, recurses := true, apart := false, narrowed := true }
def FnExactRoseOfUptoSaid : Prop := fnExactRoseOfUptoRow.holds Try.pinned (OpenSpec.upto fnExactRoseOfSpec)

/-- 'laws.FnExactBestMove', WHERE WHAT IT READS IS OF BULK AT MOST 1048576: true; the input reads as it did. -/
def fnExactBestMoveUptoRow : OpenClaim := { program := "ytpmjikchlofebaa", sum := "2d98ab82fcd82467e1399592ce644bdfd7afb2b876ed43a5b1f6fc7798e5504d", func := "loop.example/g01256/laws.FnExactBestMove", spec := "fnExactBestMove", inPlace := ["math.Float64frombits", "math.sqrt", "math.Float64bits"], unfollowed := true, recurses := true, apart := false, narrowed := true }
def FnExactBestMoveUptoSaid : Prop := fnExactBestMoveUptoRow.holds Try.pinned (OpenSpec.upto fnExactBestMoveSpec)

/-- 'laws.FnExactImproveFarm', WHERE WHAT IT READS IS OF BULK AT MOST 1048576: true; the input reads as it did. -/
def fnExactImproveFarmUptoRow : OpenClaim := { program := "ytpmjikchlofebaa", sum := "2d98ab82fcd82467e1399592ce644bdfd7afb2b876ed43a5b1f6fc7798e5504d", func := "loop.example/g01256/laws.FnExactImproveFarm", spec := "fnExactImproveFarm", inPlace := ["math.Float64frombits", "math.sqrt", "math.Float64bits"], unfollowed := true, recurses := true, apart := false, narrowed := true }
def FnExactImproveFarmUptoSaid : Prop := fnExactImproveFarmUptoRow.holds Try.pinned (OpenSpec.upto fnExactImproveFarmSpec)

/-- 'laws.FnExactWorstLoads', WHERE WHAT IT READS IS OF BULK AT MOST 1048576: true; the input reads as it did. -/
def fnExactWorstLoadsUptoRow : OpenClaim := { program := "ytpmjikchlofebaa", sum := "2d98ab82fcd82467e1399592ce644bdfd7afb2b876ed43a5b1f6fc7798e5504d", func := "loop.example/g01256/laws.FnExactWorstLoads", spec := "fnExactWorstLoads", inPlace := ["math.Float64bits", "math.Float64frombits"], unfollowed := true, recurses := true, apart := false, narrowed := true }
def FnExactWorstLoadsUptoSaid : Prop := fnExactWorstLoadsUptoRow.holds Try.pinned (OpenSpec.upto fnExactWorstLoadsSpec)

/-- 'laws.FnExactSpectrumOfLoads', WHERE WHAT IT READS IS OF BULK AT MOST 1048576: true; the input reads as it did. -/
def fnExactSpectrumOfLoadsUptoRow : OpenClaim := { program := "ytpmjikchlofebaa", sum := "2d98ab82fcd82467e1399592ce644bdfd7afb2b876ed43a5b1f6fc7798e5504d", func := "loop.example/g01256/laws.FnExactSpectrumOfLoads", spec := "fnExactSpectrumOfLoads", inPlace := ["math.Float32frombits", "math.Float64frombits", "math.Float64bits"], unfollowed := true, recurses := true, apart := false, narrowed := true }
def FnExactSpectrumOfLoadsUptoSaid : Prop := fnExactSpectrumOfLoadsUptoRow.holds Try.pinned (OpenSpec.upto fnExactSpectrumOfLoadsSpec)

/-- 'laws.FnExactCrossingsOf', WHERE WHAT IT READS IS OF BULK AT MOST 1048576: true; the input reads as it did. -/
def fnExactCrossingsOfUptoRow : OpenClaim := { program := "ytpmjikchlofebaa", sum := "2d98ab82fcd82467e1399592ce644bdfd7afb2b876ed43a5b1f6fc7798e5504d", func := "loop.example/g01256/laws.FnExactCrossingsOf", spec := "fnExactCrossingsOf", inPlace := ["math.sqrt", "math.Float64bits", "math.Float64frombits"], unfollowed := true, recurses := true, apart := false, narrowed := true }
def FnExactCrossingsOfUptoSaid : Prop := fnExactCrossingsOfUptoRow.holds Try.pinned (OpenSpec.upto fnExactCrossingsOfSpec)

end Rows
end Go.Proofs.Ytpmjikchlofebaa
