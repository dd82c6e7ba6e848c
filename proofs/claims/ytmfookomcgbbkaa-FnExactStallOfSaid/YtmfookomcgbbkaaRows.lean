/-
  No cell of these rows narrows 'for every input' (looked for: loops, veiled, ifaces, maps, wideKeys, modest, calm, conditions, laid).
  DERIVED. THE GIVEN ROWS OF THIS SEAT. 12 by the template 'for every input the law returns true; each argument reads behind the call as it read before'; 0 by the template 'total and deterministic' (their statements: YtmfookomcgbbkaaTotals.lean).
  GIVEN WITH THE SEED: the statements are not yours to turn. If you find one false, say at which input.
  Laid BY PROGRAM, IN A SANDBOX (cutbox-rows.mjs): the forced cells as the released guide's own fill.sh prints them over the translation 5aea11851ac6c389… (all of the seat's roots in one cut). By AI agents, Wed Nov 11 2026. No macro, syntax, notation, axiom, sorry.
-/
import Derived.Test.YtmfookomcgbbkaaChecked
import GoSem.Claim
import GoSem.ClaimJoined
import GoSem.ClaimMapViews
import Derived.JoinedTies
import Derived.KernelRfl
namespace Go.Proofs.Ytmfookomcgbbkaa
/- THE CELL 'sum', in the pinned program and in every row, IS THE sha256 OF THE DUMP (.gsa) THAT YtmfookomcgbbkaaProg.lean LOADS. Nothing in Lean hashes anything: it is a label: what it is worth is what the hold of that sum in a sandbox is worth. -/
noncomputable def Try.pinned : Pinned := { name := "ytmfookomcgbbkaa", sum := "5aea11851ac6c3896dfa552d21e811f0e6f26a632c001482809062303c2095bc", checked := Try.checked }
namespace Rows
def none {H : Type} : Left H := { results := [], args := [] }

/-- 'laws.FnExactWrapAngle': WHATEVER THE INPUT: true; the input reads as it did. -/
def fnExactWrapAngleSpec : ChangeSpec := { name := "fnExactWrapAngle", fn := fun _ => fun
  | [d] => { results := [.lit (.bool true)], args := [d] }
  | _ => none }
def fnExactWrapAngleRow : OpenClaim := { program := "ytmfookomcgbbkaa", sum := "5aea11851ac6c3896dfa552d21e811f0e6f26a632c001482809062303c2095bc", func := "loop.example/g01256/laws.FnExactWrapAngle", spec := "fnExactWrapAngle", inPlace := ["math.archFloor", "math.Float64bits", "math.Float64frombits", "math.archTrunc"], apart := false }
def FnExactWrapAngleSaid : Prop := fnExactWrapAngleRow.holds Try.pinned (OpenSpec.ofChange fnExactWrapAngleSpec)

/-- ITS FALSE NEIGHBOUR: 'it returns false'. Refute it at one input. -/
def fnExactWrapAngleWrong : ChangeSpec := { name := "fnExactWrapAngle", fn := fun _ => fun
  | [d] => { results := [.lit (.bool false)], args := [d] }
  | _ => none }
def FnExactWrapAngleWrongFalsely : Prop := fnExactWrapAngleRow.holds Try.pinned (OpenSpec.ofChange fnExactWrapAngleWrong)

/-- 'laws.FnExactStepApart': WHATEVER THE INPUT: true; the input reads as it did. -/
def fnExactStepApartSpec : ChangeSpec := { name := "fnExactStepApart", fn := fun _ => fun
  | [d1, d2, d3, d4] => { results := [.lit (.bool true)], args := [d1, d2, d3, d4] }
  | _ => none }
def fnExactStepApartRow : OpenClaim := { program := "ytmfookomcgbbkaa", sum := "5aea11851ac6c3896dfa552d21e811f0e6f26a632c001482809062303c2095bc", func := "loop.example/g01256/laws.FnExactStepApart", spec := "fnExactStepApart", inPlace := ["math.Float64bits", "math.Float64frombits"], apart := false }
def FnExactStepApartSaid : Prop := fnExactStepApartRow.holds Try.pinned (OpenSpec.ofChange fnExactStepApartSpec)

/-- ITS FALSE NEIGHBOUR: 'it returns false'. Refute it at one input. -/
def fnExactStepApartWrong : ChangeSpec := { name := "fnExactStepApart", fn := fun _ => fun
  | [d1, d2, d3, d4] => { results := [.lit (.bool false)], args := [d1, d2, d3, d4] }
  | _ => none }
def FnExactStepApartWrongFalsely : Prop := fnExactStepApartRow.holds Try.pinned (OpenSpec.ofChange fnExactStepApartWrong)

/-- 'laws.FnExactRunApart': WHATEVER THE INPUT: true; the input reads as it did. -/
def fnExactRunApartSpec : ChangeSpec := { name := "fnExactRunApart", fn := fun _ => fun
  | [d1, d2, d3] => { results := [.lit (.bool true)], args := [d1, d2, d3] }
  | _ => none }
def fnExactRunApartRow : OpenClaim := { program := "ytmfookomcgbbkaa", sum := "5aea11851ac6c3896dfa552d21e811f0e6f26a632c001482809062303c2095bc", func := "loop.example/g01256/laws.FnExactRunApart", spec := "fnExactRunApart", inPlace := ["math.Float64bits", "math.Float64frombits"], apart := false }
def FnExactRunApartSaid : Prop := fnExactRunApartRow.holds Try.pinned (OpenSpec.ofChange fnExactRunApartSpec)

/-- ITS FALSE NEIGHBOUR: 'it returns false'. Refute it at one input. -/
def fnExactRunApartWrong : ChangeSpec := { name := "fnExactRunApart", fn := fun _ => fun
  | [d1, d2, d3] => { results := [.lit (.bool false)], args := [d1, d2, d3] }
  | _ => none }
def FnExactRunApartWrongFalsely : Prop := fnExactRunApartRow.holds Try.pinned (OpenSpec.ofChange fnExactRunApartWrong)

/-- 'laws.FnExactValidProfile': WHATEVER THE INPUT: true; the input reads as it did. -/
def fnExactValidProfileSpec : ChangeSpec := { name := "fnExactValidProfile", fn := fun _ => fun
  | [d] => { results := [.lit (.bool true)], args := [d] }
  | _ => none }
def fnExactValidProfileRow : OpenClaim := { program := "ytmfookomcgbbkaa", sum := "5aea11851ac6c3896dfa552d21e811f0e6f26a632c001482809062303c2095bc", func := "loop.example/g01256/laws.FnExactValidProfile", spec := "fnExactValidProfile", inPlace := ["math.Float64bits", "math.Float64frombits"], unfollowed := true, recurses := true, apart := false }
def FnExactValidProfileSaid : Prop := fnExactValidProfileRow.holds Try.pinned (OpenSpec.ofChange fnExactValidProfileSpec)

/-- ITS FALSE NEIGHBOUR: 'it returns false'. Refute it at one input. -/
def fnExactValidProfileWrong : ChangeSpec := { name := "fnExactValidProfile", fn := fun _ => fun
  | [d] => { results := [.lit (.bool false)], args := [d] }
  | _ => none }
def FnExactValidProfileWrongFalsely : Prop := fnExactValidProfileRow.holds Try.pinned (OpenSpec.ofChange fnExactValidProfileWrong)

/-- 'laws.FnExactSameProfile': WHATEVER THE INPUT: true; the input reads as it did. -/
def fnExactSameProfileSpec : ChangeSpec := { name := "fnExactSameProfile", fn := fun _ => fun
  | [d1, d2] => { results := [.lit (.bool true)], args := [d1, d2] }
  | _ => none }
def fnExactSameProfileRow : OpenClaim := { program := "ytmfookomcgbbkaa", sum := "5aea11851ac6c3896dfa552d21e811f0e6f26a632c001482809062303c2095bc", func := "loop.example/g01256/laws.FnExactSameProfile", spec := "fnExactSameProfile", inPlace := ["math.Float32bits"], unfollowed := true, recurses := true, apart := false }
def FnExactSameProfileSaid : Prop := fnExactSameProfileRow.holds Try.pinned (OpenSpec.ofChange fnExactSameProfileSpec)

/-- ITS FALSE NEIGHBOUR: 'it returns false'. Refute it at one input. -/
def fnExactSameProfileWrong : ChangeSpec := { name := "fnExactSameProfile", fn := fun _ => fun
  | [d1, d2] => { results := [.lit (.bool false)], args := [d1, d2] }
  | _ => none }
def FnExactSameProfileWrongFalsely : Prop := fnExactSameProfileRow.holds Try.pinned (OpenSpec.ofChange fnExactSameProfileWrong)

/-- 'laws.FnExactDropKnot': WHATEVER THE INPUT: true; the input reads as it did. -/
def fnExactDropKnotSpec : ChangeSpec := { name := "fnExactDropKnot", fn := fun _ => fun
  | [d1, d2] => { results := [.lit (.bool true)], args := [d1, d2] }
  | _ => none }
def fnExactDropKnotRow : OpenClaim := { program := "ytmfookomcgbbkaa", sum := "5aea11851ac6c3896dfa552d21e811f0e6f26a632c001482809062303c2095bc", func := "loop.example/g01256/laws.FnExactDropKnot", spec := "fnExactDropKnot", inPlace := ["math.Float64bits", "math.Float64frombits"], unfollowed := true, recurses := true, apart := false }
def FnExactDropKnotSaid : Prop := fnExactDropKnotRow.holds Try.pinned (OpenSpec.ofChange fnExactDropKnotSpec)

/-- ITS FALSE NEIGHBOUR: 'it returns false'. Refute it at one input. -/
def fnExactDropKnotWrong : ChangeSpec := { name := "fnExactDropKnot", fn := fun _ => fun
  | [d1, d2] => { results := [.lit (.bool false)], args := [d1, d2] }
  | _ => none }
def FnExactDropKnotWrongFalsely : Prop := fnExactDropKnotRow.holds Try.pinned (OpenSpec.ofChange fnExactDropKnotWrong)

/-- 'laws.FnExactMirrorProfile': WHATEVER THE INPUT: true; the input reads as it did. -/
def fnExactMirrorProfileSpec : ChangeSpec := { name := "fnExactMirrorProfile", fn := fun _ => fun
  | [d] => { results := [.lit (.bool true)], args := [d] }
  | _ => none }
def fnExactMirrorProfileRow : OpenClaim := { program := "ytmfookomcgbbkaa", sum := "5aea11851ac6c3896dfa552d21e811f0e6f26a632c001482809062303c2095bc", func := "loop.example/g01256/laws.FnExactMirrorProfile", spec := "fnExactMirrorProfile", inPlace := ["math.Float64bits", "math.Float64frombits"], unfollowed := true, recurses := true, apart := false }
def FnExactMirrorProfileSaid : Prop := fnExactMirrorProfileRow.holds Try.pinned (OpenSpec.ofChange fnExactMirrorProfileSpec)

/-- ITS FALSE NEIGHBOUR: 'it returns false'. Refute it at one input. -/
def fnExactMirrorProfileWrong : ChangeSpec := { name := "fnExactMirrorProfile", fn := fun _ => fun
  | [d] => { results := [.lit (.bool false)], args := [d] }
  | _ => none }
def FnExactMirrorProfileWrongFalsely : Prop := fnExactMirrorProfileRow.holds Try.pinned (OpenSpec.ofChange fnExactMirrorProfileWrong)

/-- 'laws.FnExactAddKnot': WHATEVER THE INPUT: true; the input reads as it did. -/
def fnExactAddKnotSpec : ChangeSpec := { name := "fnExactAddKnot", fn := fun _ => fun
  | [d1, d2, d3, d4] => { results := [.lit (.bool true)], args := [d1, d2, d3, d4] }
  | _ => none }
def fnExactAddKnotRow : OpenClaim := { program := "ytmfookomcgbbkaa", sum := "5aea11851ac6c3896dfa552d21e811f0e6f26a632c001482809062303c2095bc", func := "loop.example/g01256/laws.FnExactAddKnot", spec := "fnExactAddKnot", inPlace := ["math.Float64bits", "math.Float64frombits"], unfollowed := true, recurses := true, apart := false }
def FnExactAddKnotSaid : Prop := fnExactAddKnotRow.holds Try.pinned (OpenSpec.ofChange fnExactAddKnotSpec)

/-- ITS FALSE NEIGHBOUR: 'it returns false'. Refute it at one input. -/
def fnExactAddKnotWrong : ChangeSpec := { name := "fnExactAddKnot", fn := fun _ => fun
  | [d1, d2, d3, d4] => { results := [.lit (.bool false)], args := [d1, d2, d3, d4] }
  | _ => none }
def FnExactAddKnotWrongFalsely : Prop := fnExactAddKnotRow.holds Try.pinned (OpenSpec.ofChange fnExactAddKnotWrong)

/-- 'laws.FnExactCutProfile': WHATEVER THE INPUT: true; the input reads as it did. -/
def fnExactCutProfileSpec : ChangeSpec := { name := "fnExactCutProfile", fn := fun _ => fun
  | [d1, d2, d3] => { results := [.lit (.bool true)], args := [d1, d2, d3] }
  | _ => none }
def fnExactCutProfileRow : OpenClaim := { program := "ytmfookomcgbbkaa", sum := "5aea11851ac6c3896dfa552d21e811f0e6f26a632c001482809062303c2095bc", func := "loop.example/g01256/laws.FnExactCutProfile", spec := "fnExactCutProfile", inPlace := ["math.Float64bits", "math.Float64frombits"], unfollowed := true, recurses := true, apart := false }
def FnExactCutProfileSaid : Prop := fnExactCutProfileRow.holds Try.pinned (OpenSpec.ofChange fnExactCutProfileSpec)

/-- ITS FALSE NEIGHBOUR: 'it returns false'. Refute it at one input. -/
def fnExactCutProfileWrong : ChangeSpec := { name := "fnExactCutProfile", fn := fun _ => fun
  | [d1, d2, d3] => { results := [.lit (.bool false)], args := [d1, d2, d3] }
  | _ => none }
def FnExactCutProfileWrongFalsely : Prop := fnExactCutProfileRow.holds Try.pinned (OpenSpec.ofChange fnExactCutProfileWrong)

/-- 'laws.FnExactStallOf': WHATEVER THE INPUT: true; the input reads as it did. -/
def fnExactStallOfSpec : ChangeSpec := { name := "fnExactStallOf", fn := fun _ => fun
  | [d] => { results := [.lit (.bool true)], args := [d] }
  | _ => none }
def fnExactStallOfRow : OpenClaim := { program := "ytmfookomcgbbkaa", sum := "5aea11851ac6c3896dfa552d21e811f0e6f26a632c001482809062303c2095bc", func := "loop.example/g01256/laws.FnExactStallOf", spec := "fnExactStallOf", inPlace := ["math.Float64bits", "math.Float64frombits"], unfollowed := true, recurses := true, apart := false }
def FnExactStallOfSaid : Prop := fnExactStallOfRow.holds Try.pinned (OpenSpec.ofChange fnExactStallOfSpec)

/-- ITS FALSE NEIGHBOUR: 'it returns false'. Refute it at one input. -/
def fnExactStallOfWrong : ChangeSpec := { name := "fnExactStallOf", fn := fun _ => fun
  | [d] => { results := [.lit (.bool false)], args := [d] }
  | _ => none }
def FnExactStallOfWrongFalsely : Prop := fnExactStallOfRow.holds Try.pinned (OpenSpec.ofChange fnExactStallOfWrong)

/-- 'laws.FnExactScaleProfile': WHATEVER THE INPUT: true; the input reads as it did. -/
def fnExactScaleProfileSpec : ChangeSpec := { name := "fnExactScaleProfile", fn := fun _ => fun
  | [d1, d2, d3] => { results := [.lit (.bool true)], args := [d1, d2, d3] }
  | _ => none }
def fnExactScaleProfileRow : OpenClaim := { program := "ytmfookomcgbbkaa", sum := "5aea11851ac6c3896dfa552d21e811f0e6f26a632c001482809062303c2095bc", func := "loop.example/g01256/laws.FnExactScaleProfile", spec := "fnExactScaleProfile", inPlace := ["math.Float64bits", "math.Float64frombits"], unfollowed := true, recurses := true, apart := false }
def FnExactScaleProfileSaid : Prop := fnExactScaleProfileRow.holds Try.pinned (OpenSpec.ofChange fnExactScaleProfileSpec)

/-- ITS FALSE NEIGHBOUR: 'it returns false'. Refute it at one input. -/
def fnExactScaleProfileWrong : ChangeSpec := { name := "fnExactScaleProfile", fn := fun _ => fun
  | [d1, d2, d3] => { results := [.lit (.bool false)], args := [d1, d2, d3] }
  | _ => none }
def FnExactScaleProfileWrongFalsely : Prop := fnExactScaleProfileRow.holds Try.pinned (OpenSpec.ofChange fnExactScaleProfileWrong)

/-- 'laws.FnExactMixProfiles': WHATEVER THE INPUT: true; the input reads as it did. -/
def fnExactMixProfilesSpec : ChangeSpec := { name := "fnExactMixProfiles", fn := fun _ => fun
  | [d1, d2, d3] => { results := [.lit (.bool true)], args := [d1, d2, d3] }
  | _ => none }
def fnExactMixProfilesRow : OpenClaim := { program := "ytmfookomcgbbkaa", sum := "5aea11851ac6c3896dfa552d21e811f0e6f26a632c001482809062303c2095bc", func := "loop.example/g01256/laws.FnExactMixProfiles", spec := "fnExactMixProfiles", inPlace := ["math.Float64bits", "math.Float64frombits"], unfollowed := true, recurses := true, apart := false }
def FnExactMixProfilesSaid : Prop := fnExactMixProfilesRow.holds Try.pinned (OpenSpec.ofChange fnExactMixProfilesSpec)

/-- ITS FALSE NEIGHBOUR: 'it returns false'. Refute it at one input. -/
def fnExactMixProfilesWrong : ChangeSpec := { name := "fnExactMixProfiles", fn := fun _ => fun
  | [d1, d2, d3] => { results := [.lit (.bool false)], args := [d1, d2, d3] }
  | _ => none }
def FnExactMixProfilesWrongFalsely : Prop := fnExactMixProfilesRow.holds Try.pinned (OpenSpec.ofChange fnExactMixProfilesWrong)

/- THE SECOND FORM. 'bulk': how many values and letters a reading holds, each counted each time it is reached (what is shared counts as often as it is met; a slice's spare places count too). A statement '..UptoSaid' is the law's where the arguments, and the package variables that the reading takes, are together of bulk at most 1048576: NARROWER than '..Said'. Prove '..Said' where nothing that the law and all that it calls make is longer than what came in: it says more and counts as full. Else prove '..UptoSaid'. A law counts once. -/
mutual
def uptoBulk {H : Type} : DataW H → Nat
  | .lit (.string bytes) => bytes.length + 1
  | .lit _ => 1
  | .nil => 1
  | .ptr d => uptoBulk d + 1
  | .slice elems spare => uptoBulkAll elems + uptoBulkAll spare + 1
  | .agg parts => uptoBulkAll parts + 1
  | .iface _ d => uptoBulk d + 1
  | .map entries => uptoBulkEntries entries + 1
  | .held _ => 1
def uptoBulkAll {H : Type} : List (DataW H) → Nat
  | [] => 0
  | d :: r => uptoBulk d + uptoBulkAll r
def uptoBulkEntries {H : Type} : List (Lit × DataW H) → Nat
  | [] => 0
  | x :: r => uptoBulkEntry x + uptoBulkEntries r
def uptoBulkEntry {H : Type} : Lit × DataW H → Nat
  | (.string bytes, d) => bytes.length + uptoBulk d + 1
  | (_, d) => uptoBulk d + 1
 end
def uptoSmall : (H : Type) → List (DataW H) → Bool := fun _ ds => decide (uptoBulkAll ds ≤ 1048576)
def OpenSpec.upto (s : _root_.Go.ChangeSpec) : _root_.Go.OpenSpec := { _root_.Go.OpenSpec.ofChange s with cond := some uptoSmall }

/-- 'laws.FnExactWrapAngle', WHERE WHAT IT READS IS OF BULK AT MOST 1048576: true; the input reads as it did. -/
def fnExactWrapAngleUptoRow : OpenClaim := { program := "ytmfookomcgbbkaa", sum := "5aea11851ac6c3896dfa552d21e811f0e6f26a632c001482809062303c2095bc", func := "loop.example/g01256/laws.FnExactWrapAngle", spec := "fnExactWrapAngle", inPlace := ["math.archFloor", "math.Float64bits", "math.Float64frombits", "math.archTrunc"], apart := false, narrowed := true }
def FnExactWrapAngleUptoSaid : Prop := fnExactWrapAngleUptoRow.holds Try.pinned (OpenSpec.upto fnExactWrapAngleSpec)

/-- 'laws.FnExactStepApart', WHERE WHAT IT READS IS OF BULK AT MOST 1048576: true; the input reads as it did. -/
def fnExactStepApartUptoRow : OpenClaim := { program := "ytmfookomcgbbkaa", sum := "5aea11851ac6c3896dfa552d21e811f0e6f26a632c001482809062303c2095bc", func := "loop.example/g01256/laws.FnExactStepApart", spec := "fnExactStepApart", inPlace := ["math.Float64bits", "math.Float64frombits"], apart := false, narrowed := true }
def FnExactStepApartUptoSaid : Prop := fnExactStepApartUptoRow.holds Try.pinned (OpenSpec.upto fnExactStepApartSpec)

/-- 'laws.FnExactRunApart', WHERE WHAT IT READS IS OF BULK AT MOST 1048576: true; the input reads as it did. -/
def fnExactRunApartUptoRow : OpenClaim := { program := "ytmfookomcgbbkaa", sum := "5aea11851ac6c3896dfa552d21e811f0e6f26a632c001482809062303c2095bc", func := "loop.example/g01256/laws.FnExactRunApart", spec := "fnExactRunApart", inPlace := ["math.Float64bits", "math.Float64frombits"], apart := false, narrowed := true }
def FnExactRunApartUptoSaid : Prop := fnExactRunApartUptoRow.holds Try.pinned (OpenSpec.upto fnExactRunApartSpec)

/-- 'laws.FnExactValidProfile', WHERE WHAT IT READS IS OF BULK AT MOST 1048576: true; the input reads as it did. -/
def fnExactValidProfileUptoRow : OpenClaim := { program := "ytmfookomcgbbkaa", sum := "5aea11851ac6c3896dfa552d21e811f0e6f26a632c001482809062303c2095bc", func := "loop.example/g01256/laws.FnExactValidProfile", spec := "fnExactValidProfile", inPlace := ["math.Float64bits", "math.Float64frombits"], unfollowed := true, recurses := true, apart := false, narrowed := true }
def FnExactValidProfileUptoSaid : Prop := fnExactValidProfileUptoRow.holds Try.pinned (OpenSpec.upto fnExactValidProfileSpec)

/-- 'laws.FnExactSameProfile', WHERE WHAT IT READS IS OF BULK AT MOST 1048576: true; the input reads as it did. -/
def fnExactSameProfileUptoRow : OpenClaim := { program := "ytmfookomcgbbkaa", sum := "5aea11851ac6c3896dfa552d21e811f0e6f26a632c001482809062303c2095bc", func := "loop.example/g01256/laws.FnExactSameProfile", spec := "fnExactSameProfile", inPlace := ["math.Float32bits"], unfollowed := true, recurses := true, apart := false, narrowed := true }
def FnExactSameProfileUptoSaid : Prop := fnExactSameProfileUptoRow.holds Try.pinned (OpenSpec.upto fnExactSameProfileSpec)

/-- 'laws.FnExactDropKnot', WHERE WHAT IT READS IS OF BULK AT MOST 1048576: true; the input reads as it did. -/
def fnExactDropKnotUptoRow : OpenClaim := { program := "ytmfookomcgbbkaa", sum := "5aea11851ac6c3896dfa552d21e811f0e6f26a632c001482809062303c2095bc", func := "loop.example/g01256/laws.FnExactDropKnot", spec := "fnExactDropKnot", inPlace := ["math.Float64bits", "math.Float64frombits"], unfollowed := true, recurses := true, apart := false, narrowed := true }
def FnExactDropKnotUptoSaid : Prop := fnExactDropKnotUptoRow.holds Try.pinned (OpenSpec.upto fnExactDropKnotSpec)

/-- 'laws.FnExactMirrorProfile', WHERE WHAT IT READS IS OF BULK AT MOST 1048576: true; the input reads as it did. -/
def fnExactMirrorProfileUptoRow : OpenClaim := { program := "ytmfookomcgbbkaa", sum := "5aea11851ac6c3896dfa552d21e811f0e6f26a632c001482809062303c2095bc", func := "loop.example/g01256/laws.FnExactMirrorProfile", spec := "fnExactMirrorProfile", inPlace := ["math.Float64bits", "math.Float64frombits"], unfollowed := true, recurses := true, apart := false, narrowed := true }
def FnExactMirrorProfileUptoSaid : Prop := fnExactMirrorProfileUptoRow.holds Try.pinned (OpenSpec.upto fnExactMirrorProfileSpec)

/-- 'laws.FnExactAddKnot', WHERE WHAT IT READS IS OF BULK AT MOST 1048576: true; the input reads as it did. -/
def fnExactAddKnotUptoRow : OpenClaim := { program := "ytmfookomcgbbkaa", sum := "5aea11851ac6c3896dfa552d21e811f0e6f26a632c001482809062303c2095bc", func := "loop.example/g01256/laws.FnExactAddKnot", spec := "fnExactAddKnot", inPlace := ["math.Float64bits", "math.Float64frombits"], unfollowed := true, recurses := true, apart := false, narrowed := true }
def FnExactAddKnotUptoSaid : Prop := fnExactAddKnotUptoRow.holds Try.pinned (OpenSpec.upto fnExactAddKnotSpec)

/-- 'laws.FnExactCutProfile', WHERE WHAT IT READS IS OF BULK AT MOST 1048576: true; the input reads as it did. -/
def fnExactCutProfileUptoRow : OpenClaim := { program := "ytmfookomcgbbkaa", sum := "5aea11851ac6c3896dfa552d21e811f0e6f26a632c001482809062303c2095bc", func := "loop.example/g01256/laws.FnExactCutProfile", spec := "fnExactCutProfile", inPlace := ["math.Float64bits", "math.Float64frombits"], unfollowed := true, recurses := true, apart := false, narrowed := true }
def FnExactCutProfileUptoSaid : Prop := fnExactCutProfileUptoRow.holds Try.pinned (OpenSpec.upto fnExactCutProfileSpec)

/-- 'laws.FnExactStallOf', WHERE WHAT IT READS IS OF BULK AT MOST 1048576: true; the input reads as it did. -/
def fnExactStallOfUptoRow : OpenClaim := { program := "ytmfookomcgbbkaa", sum := "5aea11851ac6c3896dfa552d21e811f0e6f26a632c001482809062303c2095bc", func := "loop.example/g01256/laws.FnExactStallOf", spec := "fnExactStallOf", inPlace := ["math.Float64bits", "math.Float64frombits"], unfollowed := true, recurses := true, apart := false, narrowed := true }
def FnExactStallOfUptoSaid : Prop := fnExactStallOfUptoRow.holds Try.pinned (OpenSpec.upto fnExactStallOfSpec)

/-- 'laws.FnExactScaleProfile', WHERE WHAT IT READS IS OF BULK AT MOST 1048576: true; the input reads as it did. -/
def fnExactScaleProfileUptoRow : OpenClaim := { program := "ytmfookomcgbbkaa", sum := "5aea11851ac6c3896dfa552d21e811f0e6f26a632c001482809062303c2095bc", func := "loop.example/g01256/laws.FnExactScaleProfile", spec := "fnExactScaleProfile", inPlace := ["math.Float64bits", "math.Float64frombits"], unfollowed := true, recurses := true, apart := false, narrowed := true }
def FnExactScaleProfileUptoSaid : Prop := fnExactScaleProfileUptoRow.holds Try.pinned (OpenSpec.upto fnExactScaleProfileSpec)

/-- 'laws.FnExactMixProfiles', WHERE WHAT IT READS IS OF BULK AT MOST 1048576: true; the input reads as it did. -/
def fnExactMixProfilesUptoRow : OpenClaim := { program := "ytmfookomcgbbkaa", sum := "5aea11851ac6c3896dfa552d21e811f0e6f26a632c001482809062303c2095bc", func := "loop.example/g01256/laws.FnExactMixProfiles", spec := "fnExactMixProfiles", inPlace := ["math.Float64bits", "math.Float64frombits"], unfollowed := true, recurses := true, apart := false, narrowed := true }
def FnExactMixProfilesUptoSaid : Prop := fnExactMixProfilesUptoRow.holds Try.pinned (OpenSpec.upto fnExactMixProfilesSpec)

end Rows
end Go.Proofs.Ytmfookomcgbbkaa
