/-
  No cell of these rows narrows 'for every input' (looked for: loops, veiled, ifaces, maps, wideKeys, modest, calm, conditions, laid).
  DERIVED. THE GIVEN ROWS OF THIS SEAT. 5 by the template 'for every input the law returns true; each argument reads behind the call as it read before'; 0 by the template 'total and deterministic' (their statements: YtleimkejjpggmaaTotals.lean).
  GIVEN WITH THE SEED: the statements are not yours to turn. If you find one false, say at which input.
  Laid BY PROGRAM, IN A SANDBOX (cutbox-rows.mjs): the forced cells as the released guide's own fill.sh prints them over the translation 541fc189d7ccf0df… (all of the seat's roots in one cut). By AI agents, Wed Nov 11 2026. No macro, syntax, notation, axiom, sorry.
-/
import Derived.Test.YtleimkejjpggmaaChecked
import GoSem.Claim
import GoSem.ClaimJoined
import GoSem.ClaimMapViews
import Derived.JoinedTies
import Derived.KernelRfl
namespace Go.Proofs.Ytleimkejjpggmaa
/- THE CELL 'sum', in the pinned program and in every row, IS THE sha256 OF THE DUMP (.gsa) THAT YtleimkejjpggmaaProg.lean LOADS. Nothing in Lean hashes anything: it is a label: what it is worth is what the hold of that sum in a sandbox is worth. -/
noncomputable def Try.pinned : Pinned := { name := "ytleimkejjpggmaa", sum := "541fc189d7ccf0df4a9b0ccfa1e20dc364a022a6848efe1be2a46495c94fac02", checked := Try.checked }
namespace Rows
def none {H : Type} : Left H := { results := [], args := [] }

/-- 'laws.FnExactSameRotor': WHATEVER THE INPUT: true; the input reads as it did. -/
def fnExactSameRotorSpec : ChangeSpec := { name := "fnExactSameRotor", fn := fun _ => fun
  | [d1, d2] => { results := [.lit (.bool true)], args := [d1, d2] }
  | _ => none }
def fnExactSameRotorRow : OpenClaim := { program := "ytleimkejjpggmaa", sum := "541fc189d7ccf0df4a9b0ccfa1e20dc364a022a6848efe1be2a46495c94fac02", func := "loop.example/g01256/laws.FnExactSameRotor", spec := "fnExactSameRotor", inPlace := ["math.Float32bits"], unfollowed := true, recurses := true, apart := false }
def FnExactSameRotorSaid : Prop := fnExactSameRotorRow.holds Try.pinned (OpenSpec.ofChange fnExactSameRotorSpec)

/-- ITS FALSE NEIGHBOUR: 'it returns false'. Refute it at one input. -/
def fnExactSameRotorWrong : ChangeSpec := { name := "fnExactSameRotor", fn := fun _ => fun
  | [d1, d2] => { results := [.lit (.bool false)], args := [d1, d2] }
  | _ => none }
def FnExactSameRotorWrongFalsely : Prop := fnExactSameRotorRow.holds Try.pinned (OpenSpec.ofChange fnExactSameRotorWrong)

/-- 'laws.FnExactBinsOfWinds': WHATEVER THE INPUT: true; the input reads as it did. -/
def fnExactBinsOfWindsSpec : ChangeSpec := { name := "fnExactBinsOfWinds", fn := fun _ => fun
  | [d1, d2, d3] => { results := [.lit (.bool true)], args := [d1, d2, d3] }
  | _ => none }
def fnExactBinsOfWindsRow : OpenClaim := { program := "ytleimkejjpggmaa", sum := "541fc189d7ccf0df4a9b0ccfa1e20dc364a022a6848efe1be2a46495c94fac02", func := "loop.example/g01256/laws.FnExactBinsOfWinds", spec := "fnExactBinsOfWinds", inPlace := ["math.archFloor", "math.Float64bits", "math.Float64frombits", "math.archTrunc"], unfollowed := true, recurses := true, apart := false }
def FnExactBinsOfWindsSaid : Prop := fnExactBinsOfWindsRow.holds Try.pinned (OpenSpec.ofChange fnExactBinsOfWindsSpec)

/-- ITS FALSE NEIGHBOUR: 'it returns false'. Refute it at one input. -/
def fnExactBinsOfWindsWrong : ChangeSpec := { name := "fnExactBinsOfWinds", fn := fun _ => fun
  | [d1, d2, d3] => { results := [.lit (.bool false)], args := [d1, d2, d3] }
  | _ => none }
def FnExactBinsOfWindsWrongFalsely : Prop := fnExactBinsOfWindsRow.holds Try.pinned (OpenSpec.ofChange fnExactBinsOfWindsWrong)

/-- 'laws.FnExactEvenRose': WHATEVER THE INPUT: true; the input reads as it did. -/
def fnExactEvenRoseSpec : ChangeSpec := { name := "fnExactEvenRose", fn := fun _ => fun
  | [d1, d2] => { results := [.lit (.bool true)], args := [d1, d2] }
  | _ => none }
def fnExactEvenRoseRow : OpenClaim := { program := "ytleimkejjpggmaa", sum := "541fc189d7ccf0df4a9b0ccfa1e20dc364a022a6848efe1be2a46495c94fac02", func := "loop.example/g01256/laws.FnExactEvenRose", spec := "fnExactEvenRose", inPlace := ["math.Float64bits", "math.Float64frombits"], unfollowed := true, recurses := true, apart := false }
def FnExactEvenRoseSaid : Prop := fnExactEvenRoseRow.holds Try.pinned (OpenSpec.ofChange fnExactEvenRoseSpec)

/-- ITS FALSE NEIGHBOUR: 'it returns false'. Refute it at one input. -/
def fnExactEvenRoseWrong : ChangeSpec := { name := "fnExactEvenRose", fn := fun _ => fun
  | [d1, d2] => { results := [.lit (.bool false)], args := [d1, d2] }
  | _ => none }
def FnExactEvenRoseWrongFalsely : Prop := fnExactEvenRoseRow.holds Try.pinned (OpenSpec.ofChange fnExactEvenRoseWrong)

/-- 'laws.FnExactNormRose': WHATEVER THE INPUT: true; the input reads as it did. -/
def fnExactNormRoseSpec : ChangeSpec := { name := "fnExactNormRose", fn := fun _ => fun
  | [d] => { results := [.lit (.bool true)], args := [d] }
  | _ => none }
def fnExactNormRoseRow : OpenClaim := { program := "ytleimkejjpggmaa", sum := "541fc189d7ccf0df4a9b0ccfa1e20dc364a022a6848efe1be2a46495c94fac02", func := "loop.example/g01256/laws.FnExactNormRose", spec := "fnExactNormRose", inPlace := ["math.Float64bits", "math.Float64frombits"], unfollowed := true, recurses := true, apart := false }
def FnExactNormRoseSaid : Prop := fnExactNormRoseRow.holds Try.pinned (OpenSpec.ofChange fnExactNormRoseSpec)

/-- ITS FALSE NEIGHBOUR: 'it returns false'. Refute it at one input. -/
def fnExactNormRoseWrong : ChangeSpec := { name := "fnExactNormRose", fn := fun _ => fun
  | [d] => { results := [.lit (.bool false)], args := [d] }
  | _ => none }
def FnExactNormRoseWrongFalsely : Prop := fnExactNormRoseRow.holds Try.pinned (OpenSpec.ofChange fnExactNormRoseWrong)

/-- 'laws.FnExactTurnRose': WHATEVER THE INPUT: true; the input reads as it did. -/
def fnExactTurnRoseSpec : ChangeSpec := { name := "fnExactTurnRose", fn := fun _ => fun
  | [d1, d2] => { results := [.lit (.bool true)], args := [d1, d2] }
  | _ => none }
def fnExactTurnRoseRow : OpenClaim := { program := "ytleimkejjpggmaa", sum := "541fc189d7ccf0df4a9b0ccfa1e20dc364a022a6848efe1be2a46495c94fac02", func := "loop.example/g01256/laws.FnExactTurnRose", spec := "fnExactTurnRose", inPlace := ["math.Float64bits", "math.Float64frombits"], unfollowed := true, recurses := true, apart := false }
def FnExactTurnRoseSaid : Prop := fnExactTurnRoseRow.holds Try.pinned (OpenSpec.ofChange fnExactTurnRoseSpec)

/-- ITS FALSE NEIGHBOUR: 'it returns false'. Refute it at one input. -/
def fnExactTurnRoseWrong : ChangeSpec := { name := "fnExactTurnRose", fn := fun _ => fun
  | [d1, d2] => { results := [.lit (.bool false)], args := [d1, d2] }
  | _ => none }
def FnExactTurnRoseWrongFalsely : Prop := fnExactTurnRoseRow.holds Try.pinned (OpenSpec.ofChange fnExactTurnRoseWrong)

/- THE SECOND FORM. 'bulk': how many values and letters a reading holds, each counted each time it is reached (what is shared counts as often as it is met; a slice's spare places count too). A statement '..UptoSaid' is the law's where the arguments, and the package variables that the reading takes, are together of bulk at most 1048576: NARROWER than '..Said'. Prove '..Said' where nothing that the law and all that it calls make is longer than what came in: it says more and counts as full. Else prove '..UptoSaid'. A law counts once. -/
mutual
def uptoBulk {H : Type} : DataW H → Nat
  | .lit (.string bytes) => bytes.length + 1
  | .lit _ => 1
  | .nil => 1
  | .ptr d => uptoBulk d + 1
  | .slice elems spare => uptoBulkAll elems + uptoBulkAll spare + 1
  | .agg parts => uptoBulkAll parts + 1
  | .iface _ d => uptoBulk d + 1
  | .map entries => uptoBulkEntries entries + 1
  | .held _ => 1
def uptoBulkAll {H : Type} : List (DataW H) → Nat
  | [] => 0
  | d :: r => uptoBulk d + uptoBulkAll r
def uptoBulkEntries {H : Type} : List (Lit × DataW H) → Nat
  | [] => 0
  | x :: r => uptoBulkEntry x + uptoBulkEntries r
def uptoBulkEntry {H : Type} : Lit × DataW H → Nat
  | (.string bytes, d) => bytes.length + uptoBulk d + 1
  | (_, d) => uptoBulk d + 1
 end
def uptoSmall : (H : Type) → List (DataW H) → Bool := fun _ ds => decide (uptoBulkAll ds ≤ 1048576)
def OpenSpec.upto (s : _root_.Go.ChangeSpec) : _root_.Go.OpenSpec := { _root_.Go.OpenSpec.ofChange s with cond := some uptoSmall }

/-- 'laws.FnExactSameRotor', WHERE WHAT IT READS IS OF BULK AT MOST 1048576: true; the input reads as it did. -/
def fnExactSameRotorUptoRow : OpenClaim := { program := "ytleimkejjpggmaa", sum := "541fc189d7ccf0df4a9b0ccfa1e20dc364a022a6848efe1be2a46495c94fac02", func := "loop.example/g01256/laws.FnExactSameRotor", spec := "fnExactSameRotor", inPlace := ["math.Float32bits"], unfollowed := true, recurses := true, apart := false, narrowed := true }
def FnExactSameRotorUptoSaid : Prop := fnExactSameRotorUptoRow.holds Try.pinned (OpenSpec.upto fnExactSameRotorSpec)

/-- 'laws.FnExactBinsOfWinds', WHERE WHAT IT READS IS OF BULK AT MOST 1048576: true; the input reads as it did. -/
def fnExactBinsOfWindsUptoRow : OpenClaim := { program := "ytleimkejjpggmaa", sum := "541fc189d7ccf0df4a9b0ccfa1e20dc364a022a6848efe1be2a46495c94fac02", func := "loop.example/g01256/laws.FnExactBinsOfWinds", spec := "fnExactBinsOfWinds", inPlace := ["math.archFloor", "math.Float64bits", "math.Float64frombits", "math.archTrunc"], unfollowed := true, recurses := true, apart := false, narrowed := true }
def FnExactBinsOfWindsUptoSaid : Prop := fnExactBinsOfWindsUptoRow.holds Try.pinned (OpenSpec.upto fnExactBinsOfWindsSpec)

/-- 'laws.FnExactEvenRose', WHERE WHAT IT READS IS OF BULK AT MOST 1048576: true; the input reads as it did. -/
def fnExactEvenRoseUptoRow : OpenClaim := { program := "ytleimkejjpggmaa", sum := "541fc189d7ccf0df4a9b0ccfa1e20dc364a022a6848efe1be2a46495c94fac02", func := "loop.example/g01256/laws.FnExactEvenRose", spec := "fnExactEvenRose", inPlace := ["math.Float64bits", "math.Float64frombits"], unfollowed := true, recurses := true, apart := false, narrowed := true }
def FnExactEvenRoseUptoSaid : Prop := fnExactEvenRoseUptoRow.holds Try.pinned (OpenSpec.upto fnExactEvenRoseSpec)

/-- 'laws.FnExactNormRose', WHERE WHAT IT READS IS OF BULK AT MOST 1048576: true; the input reads as it did. -/
def fnExactNormRoseUptoRow : OpenClaim := { program := "ytleimkejjpggmaa", sum := "541fc189d7ccf0df4a9b0ccfa1e20dc364a022a6848efe1be2a46495c94fac02", func := "loop.example/g01256/laws.FnExactNormRose", spec := "fnExactNormRose", inPlace := ["math.Float64bits", "math.Float64frombits"], unfollowed := true, recurses := true, apart := false, narrowed := true }
def FnExactNormRoseUptoSaid : Prop := fnExactNormRoseUptoRow.holds Try.pinned (OpenSpec.upto fnExactNormRoseSpec)

/-- 'laws.FnExactTurnRose', WHERE WHAT IT READS IS OF BULK AT MOST 1048576: true; the input reads as it did. -/
def fnExactTurnRoseUptoRow : OpenClaim := { program := "ytleimkejjpggmaa", sum := "541fc189d7ccf0df4a9b0ccfa1e20dc364a022a6848efe1be2a46495c94fac02", func := "loop.example/g01256/laws.FnExactTurnRose", spec := "fnExactTurnRose", inPlace := ["math.Float64bits", "math.Float64frombits"], unfollowed := true, recurses := true, apart := false, narrowed := true }
def FnExactTurnRoseUptoSaid : Prop := fnExactTurnRoseUptoRow.holds Try.pinned (OpenSpec.upto fnExactTurnRoseSpec)

end Rows
end Go.Proofs.Ytleimkejjpggmaa
