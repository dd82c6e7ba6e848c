/-
  No cell of these rows narrows 'for every input' (looked for: loops, veiled, ifaces, maps, wideKeys, modest, calm, conditions, laid).
  DERIVED. THE GIVEN ROWS OF THIS SEAT. 8 by the template 'for every input the law returns true; each argument reads behind the call as it read before'; 0 by the template 'total and deterministic' (their statements: YtjmhfhoohlgbiaaTotals.lean).
  GIVEN WITH THE SEED: the statements are not yours to turn. If you find one false, say at which input.
  Laid BY PROGRAM, IN A SANDBOX (cutbox-rows.mjs): the forced cells as the released guide's own fill.sh prints them over the translation fd27cb37c9d1d353… (all of the seat's roots in one cut). By AI agents, Wed Nov 11 2026. No macro, syntax, notation, axiom, sorry.
-/
import Derived.Test.YtjmhfhoohlgbiaaChecked
import GoSem.Claim
import GoSem.ClaimJoined
import GoSem.ClaimMapViews
import Derived.JoinedTies
import Derived.KernelRfl
namespace Go.Proofs.Ytjmhfhoohlgbiaa
/- THE CELL 'sum', in the pinned program and in every row, IS THE sha256 OF THE DUMP (.gsa) THAT YtjmhfhoohlgbiaaProg.lean LOADS. Nothing in Lean hashes anything: it is a label: what it is worth is what the hold of that sum in a sandbox is worth. -/
noncomputable def Try.pinned : Pinned := { name := "ytjmhfhoohlgbiaa", sum := "fd27cb37c9d1d353ad7c607718839eddaa79e5863fbe7ae79397d51ca52acd54", checked := Try.checked }
namespace Rows
def none {H : Type} : Left H := { results := [], args := [] }

/-- 'laws.FnExactWakeAt': WHATEVER THE INPUT: true; the input reads as it did. -/
def fnExactWakeAtSpec : ChangeSpec := { name := "fnExactWakeAt", fn := fun _ => fun
  | [d1, d2, d3, d4, d5] => { results := [.lit (.bool true)], args := [d1, d2, d3, d4, d5] }
  | _ => none }
def fnExactWakeAtRow : OpenClaim := { program := "ytjmhfhoohlgbiaa", sum := "fd27cb37c9d1d353ad7c607718839eddaa79e5863fbe7ae79397d51ca52acd54", func := "loop.example/g01256/laws.FnExactWakeAt", spec := "fnExactWakeAt", inPlace := ["math.Float64frombits", "math.Float64bits"], unfollowed := true, recurses := true, apart := false }
def FnExactWakeAtSaid : Prop := fnExactWakeAtRow.holds Try.pinned (OpenSpec.ofChange fnExactWakeAtSpec)

/-- ITS FALSE NEIGHBOUR: 'it returns false'. Refute it at one input. -/
def fnExactWakeAtWrong : ChangeSpec := { name := "fnExactWakeAt", fn := fun _ => fun
  | [d1, d2, d3, d4, d5] => { results := [.lit (.bool false)], args := [d1, d2, d3, d4, d5] }
  | _ => none }
def FnExactWakeAtWrongFalsely : Prop := fnExactWakeAtRow.holds Try.pinned (OpenSpec.ofChange fnExactWakeAtWrong)

/-- 'laws.FnExactLossAt': WHATEVER THE INPUT: true; the input reads as it did. -/
def fnExactLossAtSpec : ChangeSpec := { name := "fnExactLossAt", fn := fun _ => fun
  | [d1, d2, d3, d4] => { results := [.lit (.bool true)], args := [d1, d2, d3, d4] }
  | _ => none }
def fnExactLossAtRow : OpenClaim := { program := "ytjmhfhoohlgbiaa", sum := "fd27cb37c9d1d353ad7c607718839eddaa79e5863fbe7ae79397d51ca52acd54", func := "loop.example/g01256/laws.FnExactLossAt", spec := "fnExactLossAt", inPlace := ["math.Float64frombits", "math.sqrt", "math.Float64bits"], unfollowed := true, recurses := true, apart := false }
def FnExactLossAtSaid : Prop := fnExactLossAtRow.holds Try.pinned (OpenSpec.ofChange fnExactLossAtSpec)

/-- ITS FALSE NEIGHBOUR: 'it returns false'. Refute it at one input. -/
def fnExactLossAtWrong : ChangeSpec := { name := "fnExactLossAt", fn := fun _ => fun
  | [d1, d2, d3, d4] => { results := [.lit (.bool false)], args := [d1, d2, d3, d4] }
  | _ => none }
def FnExactLossAtWrongFalsely : Prop := fnExactLossAtRow.holds Try.pinned (OpenSpec.ofChange fnExactLossAtWrong)

/-- 'laws.FnExactSpeedsInFarm': WHATEVER THE INPUT: true; the input reads as it did. -/
def fnExactSpeedsInFarmSpec : ChangeSpec := { name := "fnExactSpeedsInFarm", fn := fun _ => fun
  | [d1, d2, d3] => { results := [.lit (.bool true)], args := [d1, d2, d3] }
  | _ => none }
def fnExactSpeedsInFarmRow : OpenClaim := { program := "ytjmhfhoohlgbiaa", sum := "fd27cb37c9d1d353ad7c607718839eddaa79e5863fbe7ae79397d51ca52acd54", func := "loop.example/g01256/laws.FnExactSpeedsInFarm", spec := "fnExactSpeedsInFarm", inPlace := ["math.Float64frombits", "math.sqrt", "math.Float64bits"], unfollowed := true, recurses := true, apart := false }
def FnExactSpeedsInFarmSaid : Prop := fnExactSpeedsInFarmRow.holds Try.pinned (OpenSpec.ofChange fnExactSpeedsInFarmSpec)

/-- ITS FALSE NEIGHBOUR: 'it returns false'. Refute it at one input. -/
def fnExactSpeedsInFarmWrong : ChangeSpec := { name := "fnExactSpeedsInFarm", fn := fun _ => fun
  | [d1, d2, d3] => { results := [.lit (.bool false)], args := [d1, d2, d3] }
  | _ => none }
def FnExactSpeedsInFarmWrongFalsely : Prop := fnExactSpeedsInFarmRow.holds Try.pinned (OpenSpec.ofChange fnExactSpeedsInFarmWrong)

/-- 'laws.FnExactPowerInFarm': WHATEVER THE INPUT: true; the input reads as it did. -/
def fnExactPowerInFarmSpec : ChangeSpec := { name := "fnExactPowerInFarm", fn := fun _ => fun
  | [d1, d2, d3, d4] => { results := [.lit (.bool true)], args := [d1, d2, d3, d4] }
  | _ => none }
def fnExactPowerInFarmRow : OpenClaim := { program := "ytjmhfhoohlgbiaa", sum := "fd27cb37c9d1d353ad7c607718839eddaa79e5863fbe7ae79397d51ca52acd54", func := "loop.example/g01256/laws.FnExactPowerInFarm", spec := "fnExactPowerInFarm", inPlace := ["math.Float64frombits", "math.sqrt", "math.Float64bits"], unfollowed := true, recurses := true, apart := false }
def FnExactPowerInFarmSaid : Prop := fnExactPowerInFarmRow.holds Try.pinned (OpenSpec.ofChange fnExactPowerInFarmSpec)

/-- ITS FALSE NEIGHBOUR: 'it returns false'. Refute it at one input. -/
def fnExactPowerInFarmWrong : ChangeSpec := { name := "fnExactPowerInFarm", fn := fun _ => fun
  | [d1, d2, d3, d4] => { results := [.lit (.bool false)], args := [d1, d2, d3, d4] }
  | _ => none }
def FnExactPowerInFarmWrongFalsely : Prop := fnExactPowerInFarmRow.holds Try.pinned (OpenSpec.ofChange fnExactPowerInFarmWrong)

/-- 'laws.FnExactFarmPower': WHATEVER THE INPUT: true; the input reads as it did. -/
def fnExactFarmPowerSpec : ChangeSpec := { name := "fnExactFarmPower", fn := fun _ => fun
  | [d1, d2, d3] => { results := [.lit (.bool true)], args := [d1, d2, d3] }
  | _ => none }
def fnExactFarmPowerRow : OpenClaim := { program := "ytjmhfhoohlgbiaa", sum := "fd27cb37c9d1d353ad7c607718839eddaa79e5863fbe7ae79397d51ca52acd54", func := "loop.example/g01256/laws.FnExactFarmPower", spec := "fnExactFarmPower", inPlace := ["math.Float64frombits", "math.sqrt", "math.Float64bits"], unfollowed := true, recurses := true, apart := false }
def FnExactFarmPowerSaid : Prop := fnExactFarmPowerRow.holds Try.pinned (OpenSpec.ofChange fnExactFarmPowerSpec)

/-- ITS FALSE NEIGHBOUR: 'it returns false'. Refute it at one input. -/
def fnExactFarmPowerWrong : ChangeSpec := { name := "fnExactFarmPower", fn := fun _ => fun
  | [d1, d2, d3] => { results := [.lit (.bool false)], args := [d1, d2, d3] }
  | _ => none }
def FnExactFarmPowerWrongFalsely : Prop := fnExactFarmPowerRow.holds Try.pinned (OpenSpec.ofChange fnExactFarmPowerWrong)

/-- 'laws.FnExactFarmShare': WHATEVER THE INPUT: true; the input reads as it did. -/
def fnExactFarmShareSpec : ChangeSpec := { name := "fnExactFarmShare", fn := fun _ => fun
  | [d1, d2] => { results := [.lit (.bool true)], args := [d1, d2] }
  | _ => none }
def fnExactFarmShareRow : OpenClaim := { program := "ytjmhfhoohlgbiaa", sum := "fd27cb37c9d1d353ad7c607718839eddaa79e5863fbe7ae79397d51ca52acd54", func := "loop.example/g01256/laws.FnExactFarmShare", spec := "fnExactFarmShare", inPlace := ["math.Float64frombits", "math.sqrt", "math.Float64bits"], unfollowed := true, recurses := true, apart := false }
def FnExactFarmShareSaid : Prop := fnExactFarmShareRow.holds Try.pinned (OpenSpec.ofChange fnExactFarmShareSpec)

/-- ITS FALSE NEIGHBOUR: 'it returns false'. Refute it at one input. -/
def fnExactFarmShareWrong : ChangeSpec := { name := "fnExactFarmShare", fn := fun _ => fun
  | [d1, d2] => { results := [.lit (.bool false)], args := [d1, d2] }
  | _ => none }
def FnExactFarmShareWrongFalsely : Prop := fnExactFarmShareRow.holds Try.pinned (OpenSpec.ofChange fnExactFarmShareWrong)

/-- 'laws.FnExactBestMove': WHATEVER THE INPUT: true; the input reads as it did. -/
def fnExactBestMoveSpec : ChangeSpec := { name := "fnExactBestMove", fn := fun _ => fun
  | [d1, d2, d3, d4, d5, d6] => { results := [.lit (.bool true)], args := [d1, d2, d3, d4, d5, d6] }
  | _ => none }
def fnExactBestMoveRow : OpenClaim := { program := "ytjmhfhoohlgbiaa", sum := "fd27cb37c9d1d353ad7c607718839eddaa79e5863fbe7ae79397d51ca52acd54", func := "loop.example/g01256/laws.FnExactBestMove", spec := "fnExactBestMove", inPlace := ["math.Float64frombits", "math.sqrt", "math.Float64bits"], unfollowed := true, recurses := true, apart := false }
def FnExactBestMoveSaid : Prop := fnExactBestMoveRow.holds Try.pinned (OpenSpec.ofChange fnExactBestMoveSpec)

/-- ITS FALSE NEIGHBOUR: 'it returns false'. Refute it at one input. -/
def fnExactBestMoveWrong : ChangeSpec := { name := "fnExactBestMove", fn := fun _ => fun
  | [d1, d2, d3, d4, d5, d6] => { results := [.lit (.bool false)], args := [d1, d2, d3, d4, d5, d6] }
  | _ => none }
def FnExactBestMoveWrongFalsely : Prop := fnExactBestMoveRow.holds Try.pinned (OpenSpec.ofChange fnExactBestMoveWrong)

/-- 'laws.FnExactImproveFarm': WHATEVER THE INPUT: true; the input reads as it did. -/
def fnExactImproveFarmSpec : ChangeSpec := { name := "fnExactImproveFarm", fn := fun _ => fun
  | [d1, d2, d3, d4, d5, d6] => { results := [.lit (.bool true)], args := [d1, d2, d3, d4, d5, d6] }
  | _ => none }
def fnExactImproveFarmRow : OpenClaim := { program := "ytjmhfhoohlgbiaa", sum := "fd27cb37c9d1d353ad7c607718839eddaa79e5863fbe7ae79397d51ca52acd54", func := "loop.example/g01256/laws.FnExactImproveFarm", spec := "fnExactImproveFarm", inPlace := ["math.Float64frombits", "math.sqrt", "math.Float64bits"], unfollowed := true, recurses := true, apart := false }
def FnExactImproveFarmSaid : Prop := fnExactImproveFarmRow.holds Try.pinned (OpenSpec.ofChange fnExactImproveFarmSpec)

/-- ITS FALSE NEIGHBOUR: 'it returns false'. Refute it at one input. -/
def fnExactImproveFarmWrong : ChangeSpec := { name := "fnExactImproveFarm", fn := fun _ => fun
  | [d1, d2, d3, d4, d5, d6] => { results := [.lit (.bool false)], args := [d1, d2, d3, d4, d5, d6] }
  | _ => none }
def FnExactImproveFarmWrongFalsely : Prop := fnExactImproveFarmRow.holds Try.pinned (OpenSpec.ofChange fnExactImproveFarmWrong)

/- THE SECOND FORM. 'bulk': how many values and letters a reading holds, each counted each time it is reached (what is shared counts as often as it is met; a slice's spare places count too). A statement '..UptoSaid' is the law's where the arguments, and the package variables that the reading takes, are together of bulk at most 1048576: NARROWER than '..Said'. Prove '..Said' where nothing that the law and all that it calls make is longer than what came in: it says more and counts as full. Else prove '..UptoSaid'. A law counts once. -/
mutual
def uptoBulk {H : Type} : DataW H → Nat
  | .lit (.string bytes) => bytes.length + 1
  | .lit _ => 1
  | .nil => 1
  | .ptr d => uptoBulk d + 1
  | .slice elems spare => uptoBulkAll elems + uptoBulkAll spare + 1
  | .agg parts => uptoBulkAll parts + 1
  | .iface _ d => uptoBulk d + 1
  | .map entries => uptoBulkEntries entries + 1
  | .held _ => 1
def uptoBulkAll {H : Type} : List (DataW H) → Nat
  | [] => 0
  | d :: r => uptoBulk d + uptoBulkAll r
def uptoBulkEntries {H : Type} : List (Lit × DataW H) → Nat
  | [] => 0
  | x :: r => uptoBulkEntry x + uptoBulkEntries r
def uptoBulkEntry {H : Type} : Lit × DataW H → Nat
  | (.string bytes, d) => bytes.length + uptoBulk d + 1
  | (_, d) => uptoBulk d + 1
 end
def uptoSmall : (H : Type) → List (DataW H) → Bool := fun _ ds => decide (uptoBulkAll ds ≤ 1048576)
def OpenSpec.upto (s : _root_.Go.ChangeSpec) : _root_.Go.OpenSpec := { _root_.Go.OpenSpec.ofChange s with cond := some uptoSmall }

/-- 'laws.FnExactWakeAt', WHERE WHAT IT READS IS OF BULK AT MOST 1048576: true; the input reads as it did. -/
def fnExactWakeAtUptoRow : OpenClaim := { program := "ytjmhfhoohlgbiaa", sum := "fd27cb37c9d1d353ad7c607718839eddaa79e5863fbe7ae79397d51ca52acd54", func := "loop.example/g01256/laws.FnExactWakeAt", spec := "fnExactWakeAt", inPlace := ["math.Float64frombits", "math.Float64bits"], unfollowed := true, recurses := true, apart := false, narrowed := true }
def FnExactWakeAtUptoSaid : Prop := fnExactWakeAtUptoRow.holds Try.pinned (OpenSpec.upto fnExactWakeAtSpec)

/-- 'laws.FnExactLossAt', WHERE WHAT IT READS IS OF BULK AT MOST 1048576: true; the input reads as it did. -/
def fnExactLossAtUptoRow : OpenClaim := { program := "ytjmhfhoohlgbiaa", sum := "fd27cb37c9d1d353ad7c607718839eddaa79e5863fbe7ae79397d51ca52acd54", func := "loop.example/g01256/laws.FnExactLossAt", spec := "fnExactLossAt", inPlace := ["math.Float64frombits", "math.sqrt", "math.Float64bits"], unfollowed := true, recurses := true, apart := false, narrowed := true }
def FnExactLossAtUptoSaid : Prop := fnExactLossAtUptoRow.holds Try.pinned (OpenSpec.upto fnExactLossAtSpec)

/-- 'laws.FnExactSpeedsInFarm', WHERE WHAT IT READS IS OF BULK AT MOST 1048576: true; the input reads as it did. -/
def fnExactSpeedsInFarmUptoRow : OpenClaim := { program := "ytjmhfhoohlgbiaa", sum := "fd27cb37c9d1d353ad7c607718839eddaa79e5863fbe7ae79397d51ca52acd54", func := "loop.example/g01256/laws.FnExactSpeedsInFarm", spec := "fnExactSpeedsInFarm", inPlace := ["math.Float64frombits", "math.sqrt", "math.Float64bits"], unfollowed := true, recurses := true, apart := false, narrowed := true }
def FnExactSpeedsInFarmUptoSaid : Prop := fnExactSpeedsInFarmUptoRow.holds Try.pinned (OpenSpec.upto fnExactSpeedsInFarmSpec)

/-- 'laws.FnExactPowerInFarm', WHERE WHAT IT READS IS OF BULK AT MOST 1048576: true; the input reads as it did. -/
def fnExactPowerInFarmUptoRow : OpenClaim := { program := "ytjmhfhoohlgbiaa", sum := "fd27cb37c9d1d353ad7c607718839eddaa79e5863fbe7ae79397d51ca52acd54", func := "loop.example/g01256/laws.FnExactPowerInFarm", spec := "fnExactPowerInFarm", inPlace := ["math.Float64frombits", "math.sqrt", "math.Float64bits"], unfollowed := true, recurses := true, apart := false, narrowed := true }
def FnExactPowerInFarmUptoSaid : Prop := fnExactPowerInFarmUptoRow.holds Try.pinned (OpenSpec.upto fnExactPowerInFarmSpec)

/-- 'laws.FnExactFarmPower', WHERE WHAT IT READS IS OF BULK AT MOST 1048576: true; the input reads as it did. -/
def fnExactFarmPowerUptoRow : OpenClaim := { program := "ytjmhfhoohlgbiaa", sum := "fd27cb37c9d1d353ad7c607718839eddaa79e5863fbe7ae79397d51ca52acd54", func := "loop.example/g01256/laws.FnExactFarmPower", spec := "fnExactFarmPower", inPlace := ["math.Float64frombits", "math.sqrt", "math.Float64bits"], unfollowed := true, recurses := true, apart := false, narrowed := true }
def FnExactFarmPowerUptoSaid : Prop := fnExactFarmPowerUptoRow.holds Try.pinned (OpenSpec.upto fnExactFarmPowerSpec)

/-- 'laws.FnExactFarmShare', WHERE WHAT IT READS IS OF BULK AT MOST 1048576: true; the input reads as it did. -/
def fnExactFarmShareUptoRow : OpenClaim := { program := "ytjmhfhoohlgbiaa", sum := "fd27cb37c9d1d353ad7c607718839eddaa79e5863fbe7ae79397d51ca52acd54", func := "loop.example/g01256/laws.FnExactFarmShare", spec := "fnExactFarmShare", inPlace := ["math.Float64frombits", "math.sqrt", "math.Float64bits"], unfollowed := true, recurses := true, apart := false, narrowed := true }
def FnExactFarmShareUptoSaid : Prop := fnExactFarmShareUptoRow.holds Try.pinned (OpenSpec.upto fnExactFarmShareSpec)

/-- 'laws.FnExactBestMove', WHERE WHAT IT READS IS OF BULK AT MOST 1048576: true; the input reads as it did. -/
def fnExactBestMoveUptoRow : OpenClaim := { program := "ytjmhfhoohlgbiaa", sum := "fd27cb37c9d1d353ad7c607718839eddaa79e5863fbe7ae79397d51ca52acd54", func := "loop.example/g01256/laws.FnExactBestMove", spec := "fnExactBestMove", inPlace := ["math.Float64frombits", "math.sqrt", "math.Float64bits"], unfollowed := true, recurses := true, apart := false, narrowed := true }
def FnExactBestMoveUptoSaid : Prop := fnExactBestMoveUptoRow.holds Try.pinned (OpenSpec.upto fnExactBestMoveSpec)

/-- 'laws.FnExactImproveFarm', WHERE WHAT IT READS IS OF BULK AT MOST 1048576: true; the input reads as it did. -/
def fnExactImproveFarmUptoRow : OpenClaim := { program := "ytjmhfhoohlgbiaa", sum := "fd27cb37c9d1d353ad7c607718839eddaa79e5863fbe7ae79397d51ca52acd54", func := "loop.example/g01256/laws.FnExactImproveFarm", spec := "fnExactImproveFarm", inPlace := ["math.Float64frombits", "math.sqrt", "math.Float64bits"], unfollowed := true, recurses := true, apart := false, narrowed := true }
def FnExactImproveFarmUptoSaid : Prop := fnExactImproveFarmUptoRow.holds Try.pinned (OpenSpec.upto fnExactImproveFarmSpec)

end Rows
end Go.Proofs.Ytjmhfhoohlgbiaa
