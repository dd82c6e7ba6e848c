/-
  No cell of these rows narrows 'for every input' (looked for: loops, veiled, ifaces, maps, wideKeys, modest, calm, conditions, laid).
  DERIVED. THE GIVEN ROWS OF THIS SEAT. 12 by the template 'for every input the law returns true; each argument reads behind the call as it read before'; 0 by the template 'total and deterministic' (their statements: YtplofbkollhjpaaTotals.lean).
  GIVEN WITH THE SEED: the statements are not yours to turn. If you find one false, say at which input.
  Laid BY PROGRAM, IN A SANDBOX (cutbox-rows.mjs): the forced cells as the released guide's own fill.sh prints them over the translation 0e985e5a9af516a2… (all of the seat's roots in one cut). By AI agents, Wed Nov 11 2026. No macro, syntax, notation, axiom, sorry.
-/
import Derived.Test.YtplofbkollhjpaaChecked
import GoSem.Claim
import GoSem.ClaimJoined
import GoSem.ClaimMapViews
import Derived.JoinedTies
import Derived.KernelRfl
namespace Go.Proofs.Ytplofbkollhjpaa
/- THE CELL 'sum', in the pinned program and in every row, IS THE sha256 OF THE DUMP (.gsa) THAT YtplofbkollhjpaaProg.lean LOADS. Nothing in Lean hashes anything: it is a label: what it is worth is what the hold of that sum in a sandbox is worth. -/
noncomputable def Try.pinned : Pinned := { name := "ytplofbkollhjpaa", sum := "0e985e5a9af516a2fb5916465810cd973f0a529b8bcda0dfe337bd64cb0ebf32", checked := Try.checked }
namespace Rows
def none {H : Type} : Left H := { results := [], args := [] }

/-- 'laws.FnExactPlateProfile': WHATEVER THE INPUT: true; the input reads as it did. -/
def fnExactPlateProfileSpec : ChangeSpec := { name := "fnExactPlateProfile", fn := fun _ => fun
  | [d] => { results := [.lit (.bool true)], args := [d] }
  | _ => none }
def fnExactPlateProfileRow : OpenClaim := { program := "ytplofbkollhjpaa", sum := "0e985e5a9af516a2fb5916465810cd973f0a529b8bcda0dfe337bd64cb0ebf32", func := "loop.example/g01256/laws.FnExactPlateProfile", spec := "fnExactPlateProfile", inPlace := ["math.Float64frombits", "math.Float64bits"], unfollowed := true, recurses := true, apart := false }
def FnExactPlateProfileSaid : Prop := fnExactPlateProfileRow.holds Try.pinned (OpenSpec.ofChange fnExactPlateProfileSpec)

/-- ITS FALSE NEIGHBOUR: 'it returns false'. Refute it at one input. -/
def fnExactPlateProfileWrong : ChangeSpec := { name := "fnExactPlateProfile", fn := fun _ => fun
  | [d] => { results := [.lit (.bool false)], args := [d] }
  | _ => none }
def FnExactPlateProfileWrongFalsely : Prop := fnExactPlateProfileRow.holds Try.pinned (OpenSpec.ofChange fnExactPlateProfileWrong)

/-- 'laws.FnExactAddKnot': WHATEVER THE INPUT: true; the input reads as it did. -/
def fnExactAddKnotSpec : ChangeSpec := { name := "fnExactAddKnot", fn := fun _ => fun
  | [d1, d2, d3, d4] => { results := [.lit (.bool true)], args := [d1, d2, d3, d4] }
  | _ => none }
def fnExactAddKnotRow : OpenClaim := { program := "ytplofbkollhjpaa", sum := "0e985e5a9af516a2fb5916465810cd973f0a529b8bcda0dfe337bd64cb0ebf32", func := "loop.example/g01256/laws.FnExactAddKnot", spec := "fnExactAddKnot", inPlace := ["math.Float64bits", "math.Float64frombits"], unfollowed := true, recurses := true, apart := false }
def FnExactAddKnotSaid : Prop := fnExactAddKnotRow.holds Try.pinned (OpenSpec.ofChange fnExactAddKnotSpec)

/-- ITS FALSE NEIGHBOUR: 'it returns false'. Refute it at one input. -/
def fnExactAddKnotWrong : ChangeSpec := { name := "fnExactAddKnot", fn := fun _ => fun
  | [d1, d2, d3, d4] => { results := [.lit (.bool false)], args := [d1, d2, d3, d4] }
  | _ => none }
def FnExactAddKnotWrongFalsely : Prop := fnExactAddKnotRow.holds Try.pinned (OpenSpec.ofChange fnExactAddKnotWrong)

/-- 'laws.FnExactDropKnot': WHATEVER THE INPUT: true; the input reads as it did. -/
def fnExactDropKnotSpec : ChangeSpec := { name := "fnExactDropKnot", fn := fun _ => fun
  | [d1, d2] => { results := [.lit (.bool true)], args := [d1, d2] }
  | _ => none }
def fnExactDropKnotRow : OpenClaim := { program := "ytplofbkollhjpaa", sum := "0e985e5a9af516a2fb5916465810cd973f0a529b8bcda0dfe337bd64cb0ebf32", func := "loop.example/g01256/laws.FnExactDropKnot", spec := "fnExactDropKnot", inPlace := ["math.Float64bits", "math.Float64frombits"], unfollowed := true, recurses := true, apart := false }
def FnExactDropKnotSaid : Prop := fnExactDropKnotRow.holds Try.pinned (OpenSpec.ofChange fnExactDropKnotSpec)

/-- ITS FALSE NEIGHBOUR: 'it returns false'. Refute it at one input. -/
def fnExactDropKnotWrong : ChangeSpec := { name := "fnExactDropKnot", fn := fun _ => fun
  | [d1, d2] => { results := [.lit (.bool false)], args := [d1, d2] }
  | _ => none }
def FnExactDropKnotWrongFalsely : Prop := fnExactDropKnotRow.holds Try.pinned (OpenSpec.ofChange fnExactDropKnotWrong)

/-- 'laws.FnExactMirrorProfile': WHATEVER THE INPUT: true; the input reads as it did. -/
def fnExactMirrorProfileSpec : ChangeSpec := { name := "fnExactMirrorProfile", fn := fun _ => fun
  | [d] => { results := [.lit (.bool true)], args := [d] }
  | _ => none }
def fnExactMirrorProfileRow : OpenClaim := { program := "ytplofbkollhjpaa", sum := "0e985e5a9af516a2fb5916465810cd973f0a529b8bcda0dfe337bd64cb0ebf32", func := "loop.example/g01256/laws.FnExactMirrorProfile", spec := "fnExactMirrorProfile", inPlace := ["math.Float64bits", "math.Float64frombits"], unfollowed := true, recurses := true, apart := false }
def FnExactMirrorProfileSaid : Prop := fnExactMirrorProfileRow.holds Try.pinned (OpenSpec.ofChange fnExactMirrorProfileSpec)

/-- ITS FALSE NEIGHBOUR: 'it returns false'. Refute it at one input. -/
def fnExactMirrorProfileWrong : ChangeSpec := { name := "fnExactMirrorProfile", fn := fun _ => fun
  | [d] => { results := [.lit (.bool false)], args := [d] }
  | _ => none }
def FnExactMirrorProfileWrongFalsely : Prop := fnExactMirrorProfileRow.holds Try.pinned (OpenSpec.ofChange fnExactMirrorProfileWrong)

/-- 'laws.FnExactScaleProfile': WHATEVER THE INPUT: true; the input reads as it did. -/
def fnExactScaleProfileSpec : ChangeSpec := { name := "fnExactScaleProfile", fn := fun _ => fun
  | [d1, d2, d3] => { results := [.lit (.bool true)], args := [d1, d2, d3] }
  | _ => none }
def fnExactScaleProfileRow : OpenClaim := { program := "ytplofbkollhjpaa", sum := "0e985e5a9af516a2fb5916465810cd973f0a529b8bcda0dfe337bd64cb0ebf32", func := "loop.example/g01256/laws.FnExactScaleProfile", spec := "fnExactScaleProfile", inPlace := ["math.Float64bits", "math.Float64frombits"], unfollowed := true, recurses := true, apart := false }
def FnExactScaleProfileSaid : Prop := fnExactScaleProfileRow.holds Try.pinned (OpenSpec.ofChange fnExactScaleProfileSpec)

/-- ITS FALSE NEIGHBOUR: 'it returns false'. Refute it at one input. -/
def fnExactScaleProfileWrong : ChangeSpec := { name := "fnExactScaleProfile", fn := fun _ => fun
  | [d1, d2, d3] => { results := [.lit (.bool false)], args := [d1, d2, d3] }
  | _ => none }
def FnExactScaleProfileWrongFalsely : Prop := fnExactScaleProfileRow.holds Try.pinned (OpenSpec.ofChange fnExactScaleProfileWrong)

/-- 'laws.FnExactMixProfiles': WHATEVER THE INPUT: true; the input reads as it did. -/
def fnExactMixProfilesSpec : ChangeSpec := { name := "fnExactMixProfiles", fn := fun _ => fun
  | [d1, d2, d3] => { results := [.lit (.bool true)], args := [d1, d2, d3] }
  | _ => none }
def fnExactMixProfilesRow : OpenClaim := { program := "ytplofbkollhjpaa", sum := "0e985e5a9af516a2fb5916465810cd973f0a529b8bcda0dfe337bd64cb0ebf32", func := "loop.example/g01256/laws.FnExactMixProfiles", spec := "fnExactMixProfiles", inPlace := ["math.Float64bits", "math.Float64frombits"], unfollowed := true, recurses := true, apart := false }
def FnExactMixProfilesSaid : Prop := fnExactMixProfilesRow.holds Try.pinned (OpenSpec.ofChange fnExactMixProfilesSpec)

/-- ITS FALSE NEIGHBOUR: 'it returns false'. Refute it at one input. -/
def fnExactMixProfilesWrong : ChangeSpec := { name := "fnExactMixProfiles", fn := fun _ => fun
  | [d1, d2, d3] => { results := [.lit (.bool false)], args := [d1, d2, d3] }
  | _ => none }
def FnExactMixProfilesWrongFalsely : Prop := fnExactMixProfilesRow.holds Try.pinned (OpenSpec.ofChange fnExactMixProfilesWrong)

/-- 'laws.FnExactCutProfile': WHATEVER THE INPUT: true; the input reads as it did. -/
def fnExactCutProfileSpec : ChangeSpec := { name := "fnExactCutProfile", fn := fun _ => fun
  | [d1, d2, d3] => { results := [.lit (.bool true)], args := [d1, d2, d3] }
  | _ => none }
def fnExactCutProfileRow : OpenClaim := { program := "ytplofbkollhjpaa", sum := "0e985e5a9af516a2fb5916465810cd973f0a529b8bcda0dfe337bd64cb0ebf32", func := "loop.example/g01256/laws.FnExactCutProfile", spec := "fnExactCutProfile", inPlace := ["math.Float64bits", "math.Float64frombits"], unfollowed := true, recurses := true, apart := false }
def FnExactCutProfileSaid : Prop := fnExactCutProfileRow.holds Try.pinned (OpenSpec.ofChange fnExactCutProfileSpec)

/-- ITS FALSE NEIGHBOUR: 'it returns false'. Refute it at one input. -/
def fnExactCutProfileWrong : ChangeSpec := { name := "fnExactCutProfile", fn := fun _ => fun
  | [d1, d2, d3] => { results := [.lit (.bool false)], args := [d1, d2, d3] }
  | _ => none }
def FnExactCutProfileWrongFalsely : Prop := fnExactCutProfileRow.holds Try.pinned (OpenSpec.ofChange fnExactCutProfileWrong)

/-- 'laws.FnExactSameRotor': WHATEVER THE INPUT: true; the input reads as it did. -/
def fnExactSameRotorSpec : ChangeSpec := { name := "fnExactSameRotor", fn := fun _ => fun
  | [d1, d2] => { results := [.lit (.bool true)], args := [d1, d2] }
  | _ => none }
def fnExactSameRotorRow : OpenClaim := { program := "ytplofbkollhjpaa", sum := "0e985e5a9af516a2fb5916465810cd973f0a529b8bcda0dfe337bd64cb0ebf32", func := "loop.example/g01256/laws.FnExactSameRotor", spec := "fnExactSameRotor", inPlace := ["math.Float32bits"], unfollowed := true, recurses := true, apart := false }
def FnExactSameRotorSaid : Prop := fnExactSameRotorRow.holds Try.pinned (OpenSpec.ofChange fnExactSameRotorSpec)

/-- ITS FALSE NEIGHBOUR: 'it returns false'. Refute it at one input. -/
def fnExactSameRotorWrong : ChangeSpec := { name := "fnExactSameRotor", fn := fun _ => fun
  | [d1, d2] => { results := [.lit (.bool false)], args := [d1, d2] }
  | _ => none }
def FnExactSameRotorWrongFalsely : Prop := fnExactSameRotorRow.holds Try.pinned (OpenSpec.ofChange fnExactSameRotorWrong)

/-- 'laws.FnExactEvenRotor': WHATEVER THE INPUT: true; the input reads as it did. -/
def fnExactEvenRotorSpec : ChangeSpec := { name := "fnExactEvenRotor", fn := fun _ => fun
  | [d1, d2, d3, d4, d5, d6, d7] => { results := [.lit (.bool true)], args := [d1, d2, d3, d4, d5, d6, d7] }
  | _ => none }
def fnExactEvenRotorRow : OpenClaim := { program := "ytplofbkollhjpaa", sum := "0e985e5a9af516a2fb5916465810cd973f0a529b8bcda0dfe337bd64cb0ebf32", func := "loop.example/g01256/laws.FnExactEvenRotor", spec := "fnExactEvenRotor", inPlace := ["math.Float64bits", "math.Float64frombits"], unfollowed := true, recurses := true, apart := false }
def FnExactEvenRotorSaid : Prop := fnExactEvenRotorRow.holds Try.pinned (OpenSpec.ofChange fnExactEvenRotorSpec)

/-- ITS FALSE NEIGHBOUR: 'it returns false'. Refute it at one input. -/
def fnExactEvenRotorWrong : ChangeSpec := { name := "fnExactEvenRotor", fn := fun _ => fun
  | [d1, d2, d3, d4, d5, d6, d7] => { results := [.lit (.bool false)], args := [d1, d2, d3, d4, d5, d6, d7] }
  | _ => none }
def FnExactEvenRotorWrongFalsely : Prop := fnExactEvenRotorRow.holds Try.pinned (OpenSpec.ofChange fnExactEvenRotorWrong)

/-- 'laws.FnExactSetStation': WHATEVER THE INPUT: true; the input reads as it did. -/
def fnExactSetStationSpec : ChangeSpec := { name := "fnExactSetStation", fn := fun _ => fun
  | [d1, d2, d3] => { results := [.lit (.bool true)], args := [d1, d2, d3] }
  | _ => none }
def fnExactSetStationRow : OpenClaim := { program := "ytplofbkollhjpaa", sum := "0e985e5a9af516a2fb5916465810cd973f0a529b8bcda0dfe337bd64cb0ebf32", func := "loop.example/g01256/laws.FnExactSetStation", spec := "fnExactSetStation", inPlace := ["math.Float64bits", "math.Float64frombits"], unfollowed := true, recurses := true, apart := false }
def FnExactSetStationSaid : Prop := fnExactSetStationRow.holds Try.pinned (OpenSpec.ofChange fnExactSetStationSpec)

/-- ITS FALSE NEIGHBOUR: 'it returns false'. Refute it at one input. -/
def fnExactSetStationWrong : ChangeSpec := { name := "fnExactSetStation", fn := fun _ => fun
  | [d1, d2, d3] => { results := [.lit (.bool false)], args := [d1, d2, d3] }
  | _ => none }
def FnExactSetStationWrongFalsely : Prop := fnExactSetStationRow.holds Try.pinned (OpenSpec.ofChange fnExactSetStationWrong)

/-- 'laws.FnExactTwistRotor': WHATEVER THE INPUT: true; the input reads as it did. -/
def fnExactTwistRotorSpec : ChangeSpec := { name := "fnExactTwistRotor", fn := fun _ => fun
  | [d1, d2] => { results := [.lit (.bool true)], args := [d1, d2] }
  | _ => none }
def fnExactTwistRotorRow : OpenClaim := { program := "ytplofbkollhjpaa", sum := "0e985e5a9af516a2fb5916465810cd973f0a529b8bcda0dfe337bd64cb0ebf32", func := "loop.example/g01256/laws.FnExactTwistRotor", spec := "fnExactTwistRotor", inPlace := ["math.Float64bits", "math.Float64frombits"], unfollowed := true, recurses := true, apart := false }
def FnExactTwistRotorSaid : Prop := fnExactTwistRotorRow.holds Try.pinned (OpenSpec.ofChange fnExactTwistRotorSpec)

/-- ITS FALSE NEIGHBOUR: 'it returns false'. Refute it at one input. -/
def fnExactTwistRotorWrong : ChangeSpec := { name := "fnExactTwistRotor", fn := fun _ => fun
  | [d1, d2] => { results := [.lit (.bool false)], args := [d1, d2] }
  | _ => none }
def FnExactTwistRotorWrongFalsely : Prop := fnExactTwistRotorRow.holds Try.pinned (OpenSpec.ofChange fnExactTwistRotorWrong)

/-- 'laws.FnExactScaleRotor': WHATEVER THE INPUT: true; the input reads as it did. -/
def fnExactScaleRotorSpec : ChangeSpec := { name := "fnExactScaleRotor", fn := fun _ => fun
  | [d1, d2] => { results := [.lit (.bool true)], args := [d1, d2] }
  | _ => none }
def fnExactScaleRotorRow : OpenClaim := { program := "ytplofbkollhjpaa", sum := "0e985e5a9af516a2fb5916465810cd973f0a529b8bcda0dfe337bd64cb0ebf32", func := "loop.example/g01256/laws.FnExactScaleRotor", spec := "fnExactScaleRotor", inPlace := ["math.Float64bits", "math.Float64frombits"], unfollowed := true, recurses := true, apart := false }
def FnExactScaleRotorSaid : Prop := fnExactScaleRotorRow.holds Try.pinned (OpenSpec.ofChange fnExactScaleRotorSpec)

/-- ITS FALSE NEIGHBOUR: 'it returns false'. Refute it at one input. -/
def fnExactScaleRotorWrong : ChangeSpec := { name := "fnExactScaleRotor", fn := fun _ => fun
  | [d1, d2] => { results := [.lit (.bool false)], args := [d1, d2] }
  | _ => none }
def FnExactScaleRotorWrongFalsely : Prop := fnExactScaleRotorRow.holds Try.pinned (OpenSpec.ofChange fnExactScaleRotorWrong)

/- THE SECOND FORM. 'bulk': how many values and letters a reading holds, each counted each time it is reached (what is shared counts as often as it is met; a slice's spare places count too). A statement '..UptoSaid' is the law's where the arguments, and the package variables that the reading takes, are together of bulk at most 1048576: NARROWER than '..Said'. Prove '..Said' where nothing that the law and all that it calls make is longer than what came in: it says more and counts as full. Else prove '..UptoSaid'. A law counts once. -/
mutual
def uptoBulk {H : Type} : DataW H → Nat
  | .lit (.string bytes) => bytes.length + 1
  | .lit _ => 1
  | .nil => 1
  | .ptr d => uptoBulk d + 1
  | .slice elems spare => uptoBulkAll elems + uptoBulkAll spare + 1
  | .agg parts => uptoBulkAll parts + 1
  | .iface _ d => uptoBulk d + 1
  | .map entries => uptoBulkEntries entries + 1
  | .held _ => 1
def uptoBulkAll {H : Type} : List (DataW H) → Nat
  | [] => 0
  | d :: r => uptoBulk d + uptoBulkAll r
def uptoBulkEntries {H : Type} : List (Lit × DataW H) → Nat
  | [] => 0
  | x :: r => uptoBulkEntry x + uptoBulkEntries r
def uptoBulkEntry {H : Type} : Lit × DataW H → Nat
  | (.string bytes, d) => bytes.length + uptoBulk d + 1
  | (_, d) => uptoBulk d + 1
 end
def uptoSmall : (H : Type) → List (DataW H) → Bool := fun _ ds => decide (uptoBulkAll ds ≤ 1048576)
def OpenSpec.upto (s : _root_.Go.ChangeSpec) : _root_.Go.OpenSpec := { _root_.Go.OpenSpec.ofChange s with cond := some uptoSmall }

/-- 'laws.FnExactPlateProfile', WHERE WHAT IT READS IS OF BULK AT MOST 1048576: true; the input reads as it did. -/
def fnExactPlateProfileUptoRow : OpenClaim := { program := "ytplofbkollhjpaa", sum := "0e985e5a9af516a2fb5916465810cd973f0a529b8bcda0dfe337bd64cb0ebf32", func := "loop.example/g01256/laws.FnExactPlateProfile", spec := "fnExactPlateProfile", inPlace := ["math.Float64frombits", "math.Float64bits"], unfollowed := true, recurses := true, apart := false, narrowed := true }
def FnExactPlateProfileUptoSaid : Prop := fnExactPlateProfileUptoRow.holds Try.pinned (OpenSpec.upto fnExactPlateProfileSpec)

/-- 'laws.FnExactAddKnot', WHERE WHAT IT READS IS OF BULK AT MOST 1048576: true; the input reads as it did. -/
def fnExactAddKnotUptoRow : OpenClaim := { program := "ytplofbkollhjpaa", sum := "0e985e5a9af516a2fb5916465810cd973f0a529b8bcda0dfe337bd64cb0ebf32", func := "loop.example/g01256/laws.FnExactAddKnot", spec := "fnExactAddKnot", inPlace := ["math.Float64bits", "math.Float64frombits"], unfollowed := true, recurses := true, apart := false, narrowed := true }
def FnExactAddKnotUptoSaid : Prop := fnExactAddKnotUptoRow.holds Try.pinned (OpenSpec.upto fnExactAddKnotSpec)

/-- 'laws.FnExactDropKnot', WHERE WHAT IT READS IS OF BULK AT MOST 1048576: true; the input reads as it did. -/
def fnExactDropKnotUptoRow : OpenClaim := { program := "ytplofbkollhjpaa", sum := "0e985e5a9af516a2fb5916465810cd973f0a529b8bcda0dfe337bd64cb0ebf32", func := "loop.example/g01256/laws.FnExactDropKnot", spec := "fnExactDropKnot", inPlace := ["math.Float64bits", "math.Float64frombits"], unfollowed := true, recurses := true, apart := false, narrowed := true }
def FnExactDropKnotUptoSaid : Prop := fnExactDropKnotUptoRow.holds Try.pinned (OpenSpec.upto fnExactDropKnotSpec)

/-- 'laws.FnExactMirrorProfile', WHERE WHAT IT READS IS OF BULK AT MOST 1048576: true; the input reads as it did. -/
def fnExactMirrorProfileUptoRow : OpenClaim := { program := "ytplofbkollhjpaa", sum := "0e985e5a9af516a2fb5916465810cd973f0a529b8bcda0dfe337bd64cb0ebf32", func := "loop.example/g01256/laws.FnExactMirrorProfile", spec := "fnExactMirrorProfile", inPlace := ["math.Float64bits", "math.Float64frombits"], unfollowed := true, recurses := true, apart := false, narrowed := true }
def FnExactMirrorProfileUptoSaid : Prop := fnExactMirrorProfileUptoRow.holds Try.pinned (OpenSpec.upto fnExactMirrorProfileSpec)

/-- 'laws.FnExactScaleProfile', WHERE WHAT IT READS IS OF BULK AT MOST 1048576: true; the input reads as it did. -/
def fnExactScaleProfileUptoRow : OpenClaim := { program := "ytplofbkollhjpaa", sum := "0e985e5a9af516a2fb5916465810cd973f0a529b8bcda0dfe337bd64cb0ebf32", func := "loop.example/g01256/laws.FnExactScaleProfile", spec := "fnExactScaleProfile", inPlace := ["math.Float64bits", "math.Float64frombits"], unfollowed := true, recurses := true, apart := false, narrowed := true }
def FnExactScaleProfileUptoSaid : Prop := fnExactScaleProfileUptoRow.holds Try.pinned (OpenSpec.upto fnExactScaleProfileSpec)

/-- 'laws.FnExactMixProfiles', WHERE WHAT IT READS IS OF BULK AT MOST 1048576: true; the input reads as it did. -/
def fnExactMixProfilesUptoRow : OpenClaim := { program := "ytplofbkollhjpaa", sum := "0e985e5a9af516a2fb5916465810cd973f0a529b8bcda0dfe337bd64cb0ebf32", func := "loop.example/g01256/laws.FnExactMixProfiles", spec := "fnExactMixProfiles", inPlace := ["math.Float64bits", "math.Float64frombits"], unfollowed := true, recurses := true, apart := false, narrowed := true }
def FnExactMixProfilesUptoSaid : Prop := fnExactMixProfilesUptoRow.holds Try.pinned (OpenSpec.upto fnExactMixProfilesSpec)

/-- 'laws.FnExactCutProfile', WHERE WHAT IT READS IS OF BULK AT MOST 1048576: true; the input reads as it did. -/
def fnExactCutProfileUptoRow : OpenClaim := { program := "ytplofbkollhjpaa", sum := "0e985e5a9af516a2fb5916465810cd973f0a529b8bcda0dfe337bd64cb0ebf32", func := "loop.example/g01256/laws.FnExactCutProfile", spec := "fnExactCutProfile", inPlace := ["math.Float64bits", "math.Float64frombits"], unfollowed := true, recurses := true, apart := false, narrowed := true }
def FnExactCutProfileUptoSaid : Prop := fnExactCutProfileUptoRow.holds Try.pinned (OpenSpec.upto fnExactCutProfileSpec)

/-- 'laws.FnExactSameRotor', WHERE WHAT IT READS IS OF BULK AT MOST 1048576: true; the input reads as it did. -/
def fnExactSameRotorUptoRow : OpenClaim := { program := "ytplofbkollhjpaa", sum := "0e985e5a9af516a2fb5916465810cd973f0a529b8bcda0dfe337bd64cb0ebf32", func := "loop.example/g01256/laws.FnExactSameRotor", spec := "fnExactSameRotor", inPlace := ["math.Float32bits"], unfollowed := true, recurses := true, apart := false, narrowed := true }
def FnExactSameRotorUptoSaid : Prop := fnExactSameRotorUptoRow.holds Try.pinned (OpenSpec.upto fnExactSameRotorSpec)

/-- 'laws.FnExactEvenRotor', WHERE WHAT IT READS IS OF BULK AT MOST 1048576: true; the input reads as it did. -/
def fnExactEvenRotorUptoRow : OpenClaim := { program := "ytplofbkollhjpaa", sum := "0e985e5a9af516a2fb5916465810cd973f0a529b8bcda0dfe337bd64cb0ebf32", func := "loop.example/g01256/laws.FnExactEvenRotor", spec := "fnExactEvenRotor", inPlace := ["math.Float64bits", "math.Float64frombits"], unfollowed := true, recurses := true, apart := false, narrowed := true }
def FnExactEvenRotorUptoSaid : Prop := fnExactEvenRotorUptoRow.holds Try.pinned (OpenSpec.upto fnExactEvenRotorSpec)

/-- 'laws.FnExactSetStation', WHERE WHAT IT READS IS OF BULK AT MOST 1048576: true; the input reads as it did. -/
def fnExactSetStationUptoRow : OpenClaim := { program := "ytplofbkollhjpaa", sum := "0e985e5a9af516a2fb5916465810cd973f0a529b8bcda0dfe337bd64cb0ebf32", func := "loop.example/g01256/laws.FnExactSetStation", spec := "fnExactSetStation", inPlace := ["math.Float64bits", "math.Float64frombits"], unfollowed := true, recurses := true, apart := false, narrowed := true }
def FnExactSetStationUptoSaid : Prop := fnExactSetStationUptoRow.holds Try.pinned (OpenSpec.upto fnExactSetStationSpec)

/-- 'laws.FnExactTwistRotor', WHERE WHAT IT READS IS OF BULK AT MOST 1048576: true; the input reads as it did. -/
def fnExactTwistRotorUptoRow : OpenClaim := { program := "ytplofbkollhjpaa", sum := "0e985e5a9af516a2fb5916465810cd973f0a529b8bcda0dfe337bd64cb0ebf32", func := "loop.example/g01256/laws.FnExactTwistRotor", spec := "fnExactTwistRotor", inPlace := ["math.Float64bits", "math.Float64frombits"], unfollowed := true, recurses := true, apart := false, narrowed := true }
def FnExactTwistRotorUptoSaid : Prop := fnExactTwistRotorUptoRow.holds Try.pinned (OpenSpec.upto fnExactTwistRotorSpec)

/-- 'laws.FnExactScaleRotor', WHERE WHAT IT READS IS OF BULK AT MOST 1048576: true; the input reads as it did. -/
def fnExactScaleRotorUptoRow : OpenClaim := { program := "ytplofbkollhjpaa", sum := "0e985e5a9af516a2fb5916465810cd973f0a529b8bcda0dfe337bd64cb0ebf32", func := "loop.example/g01256/laws.FnExactScaleRotor", spec := "fnExactScaleRotor", inPlace := ["math.Float64bits", "math.Float64frombits"], unfollowed := true, recurses := true, apart := false, narrowed := true }
def FnExactScaleRotorUptoSaid : Prop := fnExactScaleRotorUptoRow.holds Try.pinned (OpenSpec.upto fnExactScaleRotorSpec)

end Rows
end Go.Proofs.Ytplofbkollhjpaa
