/-
  No cell of these rows narrows 'for every input' (looked for: loops, veiled, ifaces, maps, wideKeys, modest, calm, conditions, laid).
  DERIVED. THE GIVEN ROWS OF THIS SEAT. 9 by the template 'for every input the law returns true; each argument reads behind the call as it read before'; 0 by the template 'total and deterministic' (their statements: YtigfonnlhiedhacTotals.lean).
  GIVEN WITH THE SEED: the statements are not yours to turn. If you find one false, say at which input.
  Laid BY PROGRAM, IN A SANDBOX (cutbox-rows.mjs): the forced cells as the released guide's own fill.sh prints them over the translation 67ee1624e492db34… (all of the seat's roots in one cut). By AI agents, Wed Nov 11 2026. No macro, syntax, notation, axiom, sorry.
-/
import Derived.Test.YtigfonnlhiedhacChecked
import GoSem.Claim
import GoSem.ClaimJoined
import GoSem.ClaimMapViews
import Derived.JoinedTies
import Derived.KernelRfl
namespace Go.Proofs.Ytigfonnlhiedhac
/- THE CELL 'sum', in the pinned program and in every row, IS THE sha256 OF THE DUMP (.gsa) THAT YtigfonnlhiedhacProg.lean LOADS. Nothing in Lean hashes anything: it is a label: what it is worth is what the hold of that sum in a sandbox is worth. -/
noncomputable def Try.pinned : Pinned := { name := "ytigfonnlhiedhac", sum := "67ee1624e492db3480791c5bde22bb2f0adedb238022267c809ef881fb42f740", checked := Try.checked }
namespace Rows
def none {H : Type} : Left H := { results := [], args := [] }

/-- 'laws.FnRotors': WHATEVER THE INPUT: true; the input reads as it did. -/
def fnRotorsSpec : ChangeSpec := { name := "fnRotors", fn := fun _ => fun
  | [d1, d2] => { results := [.lit (.bool true)], args := [d1, d2] }
  | _ => none }
def fnRotorsRow : OpenClaim := { program := "ytigfonnlhiedhac", sum := "67ee1624e492db3480791c5bde22bb2f0adedb238022267c809ef881fb42f740", func := "loop.example/g01256/laws.FnRotors", spec := "fnRotors", inPlace := ["math.Float64frombits", "math.Float64bits", "math.archFloor", "math.archTrunc", "math.Float32bits"], unfollowed := true, recurses := true, apart := false }
def FnRotorsSaid : Prop := fnRotorsRow.holds Try.pinned (OpenSpec.ofChange fnRotorsSpec)

/-- ITS FALSE NEIGHBOUR: 'it returns false'. Refute it at one input. -/
def fnRotorsWrong : ChangeSpec := { name := "fnRotors", fn := fun _ => fun
  | [d1, d2] => { results := [.lit (.bool false)], args := [d1, d2] }
  | _ => none }
def FnRotorsWrongFalsely : Prop := fnRotorsRow.holds Try.pinned (OpenSpec.ofChange fnRotorsWrong)

/-- 'laws.FnExactSlopeAt': WHATEVER THE INPUT: true; the input reads as it did. -/
def fnExactSlopeAtSpec : ChangeSpec := { name := "fnExactSlopeAt", fn := fun _ => fun
  | [d1, d2] => { results := [.lit (.bool true)], args := [d1, d2] }
  | _ => none }
def fnExactSlopeAtRow : OpenClaim := { program := "ytigfonnlhiedhac", sum := "67ee1624e492db3480791c5bde22bb2f0adedb238022267c809ef881fb42f740", func := "loop.example/g01256/laws.FnExactSlopeAt", spec := "fnExactSlopeAt", inPlace := ["math.archFloor", "math.Float64bits", "math.Float64frombits", "math.archTrunc"], unfollowed := true, recurses := true, apart := false }
def FnExactSlopeAtSaid : Prop := fnExactSlopeAtRow.holds Try.pinned (OpenSpec.ofChange fnExactSlopeAtSpec)

/-- ITS FALSE NEIGHBOUR: 'it returns false'. Refute it at one input. -/
def fnExactSlopeAtWrong : ChangeSpec := { name := "fnExactSlopeAt", fn := fun _ => fun
  | [d1, d2] => { results := [.lit (.bool false)], args := [d1, d2] }
  | _ => none }
def FnExactSlopeAtWrongFalsely : Prop := fnExactSlopeAtRow.holds Try.pinned (OpenSpec.ofChange fnExactSlopeAtWrong)

/-- 'laws.FnExactBestGlide': WHATEVER THE INPUT: true; the input reads as it did. -/
def fnExactBestGlideSpec : ChangeSpec := { name := "fnExactBestGlide", fn := fun _ => fun
  | [d] => { results := [.lit (.bool true)], args := [d] }
  | _ => none }
def fnExactBestGlideRow : OpenClaim := { program := "ytigfonnlhiedhac", sum := "67ee1624e492db3480791c5bde22bb2f0adedb238022267c809ef881fb42f740", func := "loop.example/g01256/laws.FnExactBestGlide", spec := "fnExactBestGlide", inPlace := ["math.Float64bits", "math.Float64frombits"], unfollowed := true, recurses := true, apart := false }
def FnExactBestGlideSaid : Prop := fnExactBestGlideRow.holds Try.pinned (OpenSpec.ofChange fnExactBestGlideSpec)

/-- ITS FALSE NEIGHBOUR: 'it returns false'. Refute it at one input. -/
def fnExactBestGlideWrong : ChangeSpec := { name := "fnExactBestGlide", fn := fun _ => fun
  | [d] => { results := [.lit (.bool false)], args := [d] }
  | _ => none }
def FnExactBestGlideWrongFalsely : Prop := fnExactBestGlideRow.holds Try.pinned (OpenSpec.ofChange fnExactBestGlideWrong)

/-- 'laws.FnExactAddKnot': WHATEVER THE INPUT: true; the input reads as it did. -/
def fnExactAddKnotSpec : ChangeSpec := { name := "fnExactAddKnot", fn := fun _ => fun
  | [d1, d2, d3, d4] => { results := [.lit (.bool true)], args := [d1, d2, d3, d4] }
  | _ => none }
def fnExactAddKnotRow : OpenClaim := { program := "ytigfonnlhiedhac", sum := "67ee1624e492db3480791c5bde22bb2f0adedb238022267c809ef881fb42f740", func := "loop.example/g01256/laws.FnExactAddKnot", spec := "fnExactAddKnot", inPlace := ["math.Float64bits", "math.Float64frombits"], unfollowed := true, recurses := true, apart := false }
def FnExactAddKnotSaid : Prop := fnExactAddKnotRow.holds Try.pinned (OpenSpec.ofChange fnExactAddKnotSpec)

/-- ITS FALSE NEIGHBOUR: 'it returns false'. Refute it at one input. -/
def fnExactAddKnotWrong : ChangeSpec := { name := "fnExactAddKnot", fn := fun _ => fun
  | [d1, d2, d3, d4] => { results := [.lit (.bool false)], args := [d1, d2, d3, d4] }
  | _ => none }
def FnExactAddKnotWrongFalsely : Prop := fnExactAddKnotRow.holds Try.pinned (OpenSpec.ofChange fnExactAddKnotWrong)

/-- 'laws.FnExactDropKnot': WHATEVER THE INPUT: true; the input reads as it did. -/
def fnExactDropKnotSpec : ChangeSpec := { name := "fnExactDropKnot", fn := fun _ => fun
  | [d1, d2] => { results := [.lit (.bool true)], args := [d1, d2] }
  | _ => none }
def fnExactDropKnotRow : OpenClaim := { program := "ytigfonnlhiedhac", sum := "67ee1624e492db3480791c5bde22bb2f0adedb238022267c809ef881fb42f740", func := "loop.example/g01256/laws.FnExactDropKnot", spec := "fnExactDropKnot", inPlace := ["math.Float64bits", "math.Float64frombits"], unfollowed := true, recurses := true, apart := false }
def FnExactDropKnotSaid : Prop := fnExactDropKnotRow.holds Try.pinned (OpenSpec.ofChange fnExactDropKnotSpec)

/-- ITS FALSE NEIGHBOUR: 'it returns false'. Refute it at one input. -/
def fnExactDropKnotWrong : ChangeSpec := { name := "fnExactDropKnot", fn := fun _ => fun
  | [d1, d2] => { results := [.lit (.bool false)], args := [d1, d2] }
  | _ => none }
def FnExactDropKnotWrongFalsely : Prop := fnExactDropKnotRow.holds Try.pinned (OpenSpec.ofChange fnExactDropKnotWrong)

/-- 'laws.FnExactMirrorProfile': WHATEVER THE INPUT: true; the input reads as it did. -/
def fnExactMirrorProfileSpec : ChangeSpec := { name := "fnExactMirrorProfile", fn := fun _ => fun
  | [d] => { results := [.lit (.bool true)], args := [d] }
  | _ => none }
def fnExactMirrorProfileRow : OpenClaim := { program := "ytigfonnlhiedhac", sum := "67ee1624e492db3480791c5bde22bb2f0adedb238022267c809ef881fb42f740", func := "loop.example/g01256/laws.FnExactMirrorProfile", spec := "fnExactMirrorProfile", inPlace := ["math.Float64bits", "math.Float64frombits"], unfollowed := true, recurses := true, apart := false }
def FnExactMirrorProfileSaid : Prop := fnExactMirrorProfileRow.holds Try.pinned (OpenSpec.ofChange fnExactMirrorProfileSpec)

/-- ITS FALSE NEIGHBOUR: 'it returns false'. Refute it at one input. -/
def fnExactMirrorProfileWrong : ChangeSpec := { name := "fnExactMirrorProfile", fn := fun _ => fun
  | [d] => { results := [.lit (.bool false)], args := [d] }
  | _ => none }
def FnExactMirrorProfileWrongFalsely : Prop := fnExactMirrorProfileRow.holds Try.pinned (OpenSpec.ofChange fnExactMirrorProfileWrong)

/-- 'laws.FnExactScaleProfile': WHATEVER THE INPUT: true; the input reads as it did. -/
def fnExactScaleProfileSpec : ChangeSpec := { name := "fnExactScaleProfile", fn := fun _ => fun
  | [d1, d2, d3] => { results := [.lit (.bool true)], args := [d1, d2, d3] }
  | _ => none }
def fnExactScaleProfileRow : OpenClaim := { program := "ytigfonnlhiedhac", sum := "67ee1624e492db3480791c5bde22bb2f0adedb238022267c809ef881fb42f740", func := "loop.example/g01256/laws.FnExactScaleProfile", spec := "fnExactScaleProfile", inPlace := ["math.Float64bits", "math.Float64frombits"], unfollowed := true, recurses := true, apart := false }
def FnExactScaleProfileSaid : Prop := fnExactScaleProfileRow.holds Try.pinned (OpenSpec.ofChange fnExactScaleProfileSpec)

/-- ITS FALSE NEIGHBOUR: 'it returns false'. Refute it at one input. -/
def fnExactScaleProfileWrong : ChangeSpec := { name := "fnExactScaleProfile", fn := fun _ => fun
  | [d1, d2, d3] => { results := [.lit (.bool false)], args := [d1, d2, d3] }
  | _ => none }
def FnExactScaleProfileWrongFalsely : Prop := fnExactScaleProfileRow.holds Try.pinned (OpenSpec.ofChange fnExactScaleProfileWrong)

/-- 'laws.FnExactRunApart': WHATEVER THE INPUT: true; the input reads as it did. -/
def fnExactRunApartSpec : ChangeSpec := { name := "fnExactRunApart", fn := fun _ => fun
  | [d1, d2, d3] => { results := [.lit (.bool true)], args := [d1, d2, d3] }
  | _ => none }
def fnExactRunApartRow : OpenClaim := { program := "ytigfonnlhiedhac", sum := "67ee1624e492db3480791c5bde22bb2f0adedb238022267c809ef881fb42f740", func := "loop.example/g01256/laws.FnExactRunApart", spec := "fnExactRunApart", inPlace := ["math.Float64bits", "math.Float64frombits"], apart := false }
def FnExactRunApartSaid : Prop := fnExactRunApartRow.holds Try.pinned (OpenSpec.ofChange fnExactRunApartSpec)

/-- ITS FALSE NEIGHBOUR: 'it returns false'. Refute it at one input. -/
def fnExactRunApartWrong : ChangeSpec := { name := "fnExactRunApart", fn := fun _ => fun
  | [d1, d2, d3] => { results := [.lit (.bool false)], args := [d1, d2, d3] }
  | _ => none }
def FnExactRunApartWrongFalsely : Prop := fnExactRunApartRow.holds Try.pinned (OpenSpec.ofChange fnExactRunApartWrong)

/-- 'laws.FnExactSameProfile': WHATEVER THE INPUT: true; the input reads as it did. -/
def fnExactSameProfileSpec : ChangeSpec := { name := "fnExactSameProfile", fn := fun _ => fun
  | [d1, d2] => { results := [.lit (.bool true)], args := [d1, d2] }
  | _ => none }
def fnExactSameProfileRow : OpenClaim := { program := "ytigfonnlhiedhac", sum := "67ee1624e492db3480791c5bde22bb2f0adedb238022267c809ef881fb42f740", func := "loop.example/g01256/laws.FnExactSameProfile", spec := "fnExactSameProfile", inPlace := ["math.Float32bits"], unfollowed := true, recurses := true, apart := false }
def FnExactSameProfileSaid : Prop := fnExactSameProfileRow.holds Try.pinned (OpenSpec.ofChange fnExactSameProfileSpec)

/-- ITS FALSE NEIGHBOUR: 'it returns false'. Refute it at one input. -/
def fnExactSameProfileWrong : ChangeSpec := { name := "fnExactSameProfile", fn := fun _ => fun
  | [d1, d2] => { results := [.lit (.bool false)], args := [d1, d2] }
  | _ => none }
def FnExactSameProfileWrongFalsely : Prop := fnExactSameProfileRow.holds Try.pinned (OpenSpec.ofChange fnExactSameProfileWrong)

/- THE SECOND FORM. 'bulk': how many values and letters a reading holds, each counted each time it is reached (what is shared counts as often as it is met; a slice's spare places count too). A statement '..UptoSaid' is the law's where the arguments, and the package variables that the reading takes, are together of bulk at most 1048576: NARROWER than '..Said'. Prove '..Said' where nothing that the law and all that it calls make is longer than what came in: it says more and counts as full. Else prove '..UptoSaid'. A law counts once. -/
mutual
def uptoBulk {H : Type} : DataW H → Nat
  | .lit (.string bytes) => bytes.length + 1
  | .lit _ => 1
  | .nil => 1
  | .ptr d => uptoBulk d + 1
  | .slice elems spare => uptoBulkAll elems + uptoBulkAll spare + 1
  | .agg parts => uptoBulkAll parts + 1
  | .iface _ d => uptoBulk d + 1
  | .map entries => uptoBulkEntries entries + 1
  | .held _ => 1
def uptoBulkAll {H : Type} : List (DataW H) → Nat
  | [] => 0
  | d :: r => uptoBulk d + uptoBulkAll r
def uptoBulkEntries {H : Type} : List (Lit × DataW H) → Nat
  | [] => 0
  | x :: r => uptoBulkEntry x + uptoBulkEntries r
def uptoBulkEntry {H : Type} : Lit × DataW H → Nat
  | (.string bytes, d) => bytes.length + uptoBulk d + 1
  | (_, d) => uptoBulk d + 1
 end
def uptoSmall : (H : Type) → List (DataW H) → Bool := fun _ ds => decide (uptoBulkAll ds ≤ 1048576)
def OpenSpec.upto (s : _root_.Go.ChangeSpec) : _root_.Go.OpenSpec := { _root_.Go.OpenSpec.ofChange s with cond := some uptoSmall }

/-- 'laws.FnRotors', WHERE WHAT IT READS IS OF BULK AT MOST 1048576: true; the input reads as it did. -/
def fnRotorsUptoRow : OpenClaim := { program := "ytigfonnlhiedhac", sum := "67ee1624e492db3480791c5bde22bb2f0adedb238022267c809ef881fb42f740", func := "loop.example/g01256/laws.FnRotors", spec := "fnRotors", inPlace := ["math.Float64frombits", "math.Float64bits", "math.archFloor", "math.archTrunc", "math.Float32bits"], unfollowed := true, recurses := true, apart := false, narrowed := true }
def FnRotorsUptoSaid : Prop := fnRotorsUptoRow.holds Try.pinned (OpenSpec.upto fnRotorsSpec)

/-- 'laws.FnExactSlopeAt', WHERE WHAT IT READS IS OF BULK AT MOST 1048576: true; the input reads as it did. -/
def fnExactSlopeAtUptoRow : OpenClaim := { program := "ytigfonnlhiedhac", sum := "67ee1624e492db3480791c5bde22bb2f0adedb238022267c809ef881fb42f740", func := "loop.example/g01256/laws.FnExactSlopeAt", spec := "fnExactSlopeAt", inPlace := ["math.archFloor", "math.Float64bits", "math.Float64frombits", "math.archTrunc"], unfollowed := true, recurses := true, apart := false, narrowed := true }
def FnExactSlopeAtUptoSaid : Prop := fnExactSlopeAtUptoRow.holds Try.pinned (OpenSpec.upto fnExactSlopeAtSpec)

/-- 'laws.FnExactBestGlide', WHERE WHAT IT READS IS OF BULK AT MOST 1048576: true; the input reads as it did. -/
def fnExactBestGlideUptoRow : OpenClaim := { program := "ytigfonnlhiedhac", sum := "67ee1624e492db3480791c5bde22bb2f0adedb238022267c809ef881fb42f740", func := "loop.example/g01256/laws.FnExactBestGlide", spec := "fnExactBestGlide", inPlace := ["math.Float64bits", "math.Float64frombits"], unfollowed := true, recurses := true, apart := false, narrowed := true }
def FnExactBestGlideUptoSaid : Prop := fnExactBestGlideUptoRow.holds Try.pinned (OpenSpec.upto fnExactBestGlideSpec)

/-- 'laws.FnExactAddKnot', WHERE WHAT IT READS IS OF BULK AT MOST 1048576: true; the input reads as it did. -/
def fnExactAddKnotUptoRow : OpenClaim := { program := "ytigfonnlhiedhac", sum := "67ee1624e492db3480791c5bde22bb2f0adedb238022267c809ef881fb42f740", func := "loop.example/g01256/laws.FnExactAddKnot", spec := "fnExactAddKnot", inPlace := ["math.Float64bits", "math.Float64frombits"], unfollowed := true, recurses := true, apart := false, narrowed := true }
def FnExactAddKnotUptoSaid : Prop := fnExactAddKnotUptoRow.holds Try.pinned (OpenSpec.upto fnExactAddKnotSpec)

/-- 'laws.FnExactDropKnot', WHERE WHAT IT READS IS OF BULK AT MOST 1048576: true; the input reads as it did. -/
def fnExactDropKnotUptoRow : OpenClaim := { program := "ytigfonnlhiedhac", sum := "67ee1624e492db3480791c5bde22bb2f0adedb238022267c809ef881fb42f740", func := "loop.example/g01256/laws.FnExactDropKnot", spec := "fnExactDropKnot", inPlace := ["math.Float64bits", "math.Float64frombits"], unfollowed := true, recurses := true, apart := false, narrowed := true }
def FnExactDropKnotUptoSaid : Prop := fnExactDropKnotUptoRow.holds Try.pinned (OpenSpec.upto fnExactDropKnotSpec)

/-- 'laws.FnExactMirrorProfile', WHERE WHAT IT READS IS OF BULK AT MOST 1048576: true; the input reads as it did. -/
def fnExactMirrorProfileUptoRow : OpenClaim := { program := "ytigfonnlhiedhac", sum := "67ee1624e492db3480791c5bde22bb2f0adedb238022267c809ef881fb42f740", func := "loop.example/g01256/laws.FnExactMirrorProfile", spec := "fnExactMirrorProfile", inPlace := ["math.Float64bits", "math.Float64frombits"], unfollowed := true, recurses := true, apart := false, narrowed := true }
def FnExactMirrorProfileUptoSaid : Prop := fnExactMirrorProfileUptoRow.holds Try.pinned (OpenSpec.upto fnExactMirrorProfileSpec)

/-- 'laws.FnExactScaleProfile', WHERE WHAT IT READS IS OF BULK AT MOST 1048576: true; the input reads as it did. -/
def fnExactScaleProfileUptoRow : OpenClaim := { program := "ytigfonnlhiedhac", sum := "67ee1624e492db3480791c5bde22bb2f0adedb238022267c809ef881fb42f740", func := "loop.example/g01256/laws.FnExactScaleProfile", spec := "fnExactScaleProfile", inPlace := ["math.Float64bits", "math.Float64frombits"], unfollowed := true, recurses := true, apart := false, narrowed := true }
def FnExactScaleProfileUptoSaid : Prop := fnExactScaleProfileUptoRow.holds Try.pinned (OpenSpec.upto fnExactScaleProfileSpec)

/-- 'laws.FnExactRunApart', WHERE WHAT IT READS IS OF BULK AT MOST 1048576: true; the input reads as it did. -/
def fnExactRunApartUptoRow : OpenClaim := { program := "ytigfonnlhiedhac", sum := "67ee1624e492db3480791c5bde22bb2f0adedb238022267c809ef881fb42f740", func := "loop.example/g01256/laws.FnExactRunApart", spec := "fnExactRunApart", inPlace := ["math.Float64bits", "math.Float64frombits"], apart := false, narrowed := true }
def FnExactRunApartUptoSaid : Prop := fnExactRunApartUptoRow.holds Try.pinned (OpenSpec.upto fnExactRunApartSpec)

/-- 'laws.FnExactSameProfile', WHERE WHAT IT READS IS OF BULK AT MOST 1048576: true; the input reads as it did. -/
def fnExactSameProfileUptoRow : OpenClaim := { program := "ytigfonnlhiedhac", sum := "67ee1624e492db3480791c5bde22bb2f0adedb238022267c809ef881fb42f740", func := "loop.example/g01256/laws.FnExactSameProfile", spec := "fnExactSameProfile", inPlace := ["math.Float32bits"], unfollowed := true, recurses := true, apart := false, narrowed := true }
def FnExactSameProfileUptoSaid : Prop := fnExactSameProfileUptoRow.holds Try.pinned (OpenSpec.upto fnExactSameProfileSpec)

end Rows
end Go.Proofs.Ytigfonnlhiedhac
