/-
  No cell of these rows narrows 'for every input' (looked for: loops, veiled, ifaces, maps, wideKeys, modest, calm, conditions, laid).
  DERIVED. THE GIVEN ROWS OF THIS SEAT. 4 by the template 'for every input the law returns true; each argument reads behind the call as it read before'; 0 by the template 'total and deterministic' (their statements: YtahbcpjipomcgaaTotals.lean).
  GIVEN WITH THE SEED: the statements are not yours to turn. If you find one false, say at which input.
  Laid BY PROGRAM, IN A SANDBOX (cutbox-rows.mjs): the forced cells as the released guide's own fill.sh prints them over the translation 8ac8d22503ab8e1c… (all of the seat's roots in one cut). By AI agents, Wed Nov 11 2026. No macro, syntax, notation, axiom, sorry.
-/
import Derived.Test.YtahbcpjipomcgaaChecked
import GoSem.Claim
import GoSem.ClaimJoined
import GoSem.ClaimMapViews
import Derived.JoinedTies
import Derived.KernelRfl
namespace Go.Proofs.Ytahbcpjipomcgaa
/- THE CELL 'sum', in the pinned program and in every row, IS THE sha256 OF THE DUMP (.gsa) THAT YtahbcpjipomcgaaProg.lean LOADS. Nothing in Lean hashes anything: it is a label: what it is worth is what the hold of that sum in a sandbox is worth. -/
noncomputable def Try.pinned : Pinned := { name := "ytahbcpjipomcgaa", sum := "8ac8d22503ab8e1cf51c580fb350b85f521ba5b14f3d822af093189c7890d120", checked := Try.checked }
namespace Rows
def none {H : Type} : Left H := { results := [], args := [] }

/-- 'laws.FnExactMixRoses': WHATEVER THE INPUT: true; the input reads as it did. -/
def fnExactMixRosesSpec : ChangeSpec := { name := "fnExactMixRoses", fn := fun _ => fun
  | [d1, d2, d3] => { results := [.lit (.bool true)], args := [d1, d2, d3] }
  | _ => none }
def fnExactMixRosesRow : OpenClaim := { program := "ytahbcpjipomcgaa", sum := "8ac8d22503ab8e1cf51c580fb350b85f521ba5b14f3d822af093189c7890d120", func := "loop.example/g01256/laws.FnExactMixRoses", spec := "fnExactMixRoses", inPlace := ["math.Float64bits", "math.Float64frombits"], unfollowed := true, recurses := true, apart := false }
def FnExactMixRosesSaid : Prop := fnExactMixRosesRow.holds Try.pinned (OpenSpec.ofChange fnExactMixRosesSpec)

/-- ITS FALSE NEIGHBOUR: 'it returns false'. Refute it at one input. -/
def fnExactMixRosesWrong : ChangeSpec := { name := "fnExactMixRoses", fn := fun _ => fun
  | [d1, d2, d3] => { results := [.lit (.bool false)], args := [d1, d2, d3] }
  | _ => none }
def FnExactMixRosesWrongFalsely : Prop := fnExactMixRosesRow.holds Try.pinned (OpenSpec.ofChange fnExactMixRosesWrong)

/-- 'laws.FnExactRoseOf': WHATEVER THE INPUT: true; the input reads as it did. -/
def fnExactRoseOfSpec : ChangeSpec := { name := "fnExactRoseOf", fn := fun _ => fun
  | [d1, d2, d3] => { results := [.lit (.bool true)], args := [d1, d2, d3] }
  | _ => none }
def fnExactRoseOfRow : OpenClaim := { program := "ytahbcpjipomcgaa", sum := "8ac8d22503ab8e1cf51c580fb350b85f521ba5b14f3d822af093189c7890d120", func := "loop.example/g01256/laws.FnExactRoseOf", spec := "fnExactRoseOf", inPlace := ["math.archFloor", "math.Float64bits", "math.Float64frombits", "math.archTrunc"], unfollowed := true, recurses := true, apart := false }
def FnExactRoseOfSaid : Prop := fnExactRoseOfRow.holds Try.pinned (OpenSpec.ofChange fnExactRoseOfSpec)

/-- ITS FALSE NEIGHBOUR: 'it returns false'. Refute it at one input. -/
def fnExactRoseOfWrong : ChangeSpec := { name := "fnExactRoseOf", fn := fun _ => fun
  | [d1, d2, d3] => { results := [.lit (.bool false)], args := [d1, d2, d3] }
  | _ => none }
def FnExactRoseOfWrongFalsely : Prop := fnExactRoseOfRow.holds Try.pinned (OpenSpec.ofChange fnExactRoseOfWrong)

/-- 'laws.FnExactDiscPower': WHATEVER THE INPUT: true; the input reads as it did. -/
def fnExactDiscPowerSpec : ChangeSpec := { name := "fnExactDiscPower", fn := fun _ => fun
  | [d1, d2, d3, d4] => { results := [.lit (.bool true)], args := [d1, d2, d3, d4] }
  | _ => none }
def fnExactDiscPowerRow : OpenClaim := { program := "ytahbcpjipomcgaa", sum := "8ac8d22503ab8e1cf51c580fb350b85f521ba5b14f3d822af093189c7890d120", func := "loop.example/g01256/laws.FnExactDiscPower", spec := "fnExactDiscPower", inPlace := ["math.sqrt", "math.Float64bits", "math.Float64frombits"], unfollowed := true, recurses := true, apart := false }
def FnExactDiscPowerSaid : Prop := fnExactDiscPowerRow.holds Try.pinned (OpenSpec.ofChange fnExactDiscPowerSpec)

/-- ITS FALSE NEIGHBOUR: 'it returns false'. Refute it at one input. -/
def fnExactDiscPowerWrong : ChangeSpec := { name := "fnExactDiscPower", fn := fun _ => fun
  | [d1, d2, d3, d4] => { results := [.lit (.bool false)], args := [d1, d2, d3, d4] }
  | _ => none }
def FnExactDiscPowerWrongFalsely : Prop := fnExactDiscPowerRow.holds Try.pinned (OpenSpec.ofChange fnExactDiscPowerWrong)

/-- 'laws.FnExactRunYaw': WHATEVER THE INPUT: true; the input reads as it did. -/
def fnExactRunYawSpec : ChangeSpec := { name := "fnExactRunYaw", fn := fun _ => fun
  | [d1, d2, d3, d4] => { results := [.lit (.bool true)], args := [d1, d2, d3, d4] }
  | _ => none }
def fnExactRunYawRow : OpenClaim := { program := "ytahbcpjipomcgaa", sum := "8ac8d22503ab8e1cf51c580fb350b85f521ba5b14f3d822af093189c7890d120", func := "loop.example/g01256/laws.FnExactRunYaw", spec := "fnExactRunYaw", inPlace := ["math.archFloor", "math.Float64bits", "math.Float64frombits", "math.archTrunc"], unfollowed := true, recurses := true, apart := false }
def FnExactRunYawSaid : Prop := fnExactRunYawRow.holds Try.pinned (OpenSpec.ofChange fnExactRunYawSpec)

/-- ITS FALSE NEIGHBOUR: 'it returns false'. Refute it at one input. -/
def fnExactRunYawWrong : ChangeSpec := { name := "fnExactRunYaw", fn := fun _ => fun
  | [d1, d2, d3, d4] => { results := [.lit (.bool false)], args := [d1, d2, d3, d4] }
  | _ => none }
def FnExactRunYawWrongFalsely : Prop := fnExactRunYawRow.holds Try.pinned (OpenSpec.ofChange fnExactRunYawWrong)

/- THE SECOND FORM. 'bulk': how many values and letters a reading holds, each counted each time it is reached (what is shared counts as often as it is met; a slice's spare places count too). A statement '..UptoSaid' is the law's where the arguments, and the package variables that the reading takes, are together of bulk at most 1048576: NARROWER than '..Said'. Prove '..Said' where nothing that the law and all that it calls make is longer than what came in: it says more and counts as full. Else prove '..UptoSaid'. A law counts once. -/
mutual
def uptoBulk {H : Type} : DataW H → Nat
  | .lit (.string bytes) => bytes.length + 1
  | .lit _ => 1
  | .nil => 1
  | .ptr d => uptoBulk d + 1
  | .slice elems spare => uptoBulkAll elems + uptoBulkAll spare + 1
  | .agg parts => uptoBulkAll parts + 1
  | .iface _ d => uptoBulk d + 1
  | .map entries => uptoBulkEntries entries + 1
  | .held _ => 1
def uptoBulkAll {H : Type} : List (DataW H) → Nat
  | [] => 0
  | d :: r => uptoBulk d + uptoBulkAll r
def uptoBulkEntries {H : Type} : List (Lit × DataW H) → Nat
  | [] => 0
  | x :: r => uptoBulkEntry x + uptoBulkEntries r
def uptoBulkEntry {H : Type} : Lit × DataW H → Nat
  | (.string bytes, d) => bytes.length + uptoBulk d + 1
  | (_, d) => uptoBulk d + 1
 end
def uptoSmall : (H : Type) → List (DataW H) → Bool := fun _ ds => decide (uptoBulkAll ds ≤ 1048576)
def OpenSpec.upto (s : _root_.Go.ChangeSpec) : _root_.Go.OpenSpec := { _root_.Go.OpenSpec.ofChange s with cond := some uptoSmall }

/-- 'laws.FnExactMixRoses', WHERE WHAT IT READS IS OF BULK AT MOST 1048576: true; the input reads as it did. -/
def fnExactMixRosesUptoRow : OpenClaim := { program := "ytahbcpjipomcgaa", sum := "8ac8d22503ab8e1cf51c580fb350b85f521ba5b14f3d822af093189c7890d120", func := "loop.example/g01256/laws.FnExactMixRoses", spec := "fnExactMixRoses", inPlace := ["math.Float64bits", "math.Float64frombits"], unfollowed := true, recurses := true, apart := false, narrowed := true }
def FnExactMixRosesUptoSaid : Prop := fnExactMixRosesUptoRow.holds Try.pinned (OpenSpec.upto fnExactMixRosesSpec)

/-- 'laws.FnExactRoseOf', WHERE WHAT IT READS IS OF BULK AT MOST 1048576: true; the input reads as it did. -/
def fnExactRoseOfUptoRow : OpenClaim := { program := "ytahbcpjipomcgaa", sum := "8ac8d22503ab8e1cf51c580fb350b85f521ba5b14f3d822af093189c7890d120", func := "loop.example/g01256/laws.FnExactRoseOf", spec := "fnExactRoseOf", inPlace := ["math.archFloor", "math.Float64bits", "math.Float64frombits", "math.archTrunc"], unfollowed := true, recurses := true, apart := false, narrowed := true }
def FnExactRoseOfUptoSaid : Prop := fnExactRoseOfUptoRow.holds Try.pinned (OpenSpec.upto fnExactRoseOfSpec)

/-- 'laws.FnExactDiscPower', WHERE WHAT IT READS IS OF BULK AT MOST 1048576: true; the input reads as it did. -/
def fnExactDiscPowerUptoRow : OpenClaim := { program := "ytahbcpjipomcgaa", sum := "8ac8d22503ab8e1cf51c580fb350b85f521ba5b14f3d822af093189c7890d120", func := "loop.example/g01256/laws.FnExactDiscPower", spec := "fnExactDiscPower", inPlace := ["math.sqrt", "math.Float64bits", "math.Float64frombits"], unfollowed := true, recurses := true, apart := false, narrowed := true }
def FnExactDiscPowerUptoSaid : Prop := fnExactDiscPowerUptoRow.holds Try.pinned (OpenSpec.upto fnExactDiscPowerSpec)

/-- 'laws.FnExactRunYaw', WHERE WHAT IT READS IS OF BULK AT MOST 1048576: true; the input reads as it did. -/
def fnExactRunYawUptoRow : OpenClaim := { program := "ytahbcpjipomcgaa", sum := "8ac8d22503ab8e1cf51c580fb350b85f521ba5b14f3d822af093189c7890d120", func := "loop.example/g01256/laws.FnExactRunYaw", spec := "fnExactRunYaw", inPlace := ["math.archFloor", "math.Float64bits", "math.Float64frombits", "math.archTrunc"], unfollowed := true, recurses := true, apart := false, narrowed := true }
def FnExactRunYawUptoSaid : Prop := fnExactRunYawUptoRow.holds Try.pinned (OpenSpec.upto fnExactRunYawSpec)

end Rows
end Go.Proofs.Ytahbcpjipomcgaa
