/-
  No cell of these rows narrows 'for every input' (looked for: loops, veiled, ifaces, maps, wideKeys, modest, calm, conditions, laid).
  DERIVED. THE GIVEN ROWS OF THIS SEAT. 11 by the template 'for every input the law returns true; each argument reads behind the call as it read before'; 0 by the template 'total and deterministic' (their statements: YtmfookomcgbbkabTotals.lean).
  GIVEN WITH THE SEED: the statements are not yours to turn. If you find one false, say at which input.
  Laid BY PROGRAM, IN A SANDBOX (cutbox-rows.mjs): the forced cells as the released guide's own fill.sh prints them over the translation d47b89d226dd6ac6… (all of the seat's roots in one cut). By AI agents, Wed Nov 11 2026. No macro, syntax, notation, axiom, sorry.
-/
import Derived.Test.YtmfookomcgbbkabChecked
import GoSem.Claim
import GoSem.ClaimJoined
import GoSem.ClaimMapViews
import Derived.JoinedTies
import Derived.KernelRfl
namespace Go.Proofs.Ytmfookomcgbbkab
/- THE CELL 'sum', in the pinned program and in every row, IS THE sha256 OF THE DUMP (.gsa) THAT YtmfookomcgbbkabProg.lean LOADS. Nothing in Lean hashes anything: it is a label: what it is worth is what the hold of that sum in a sandbox is worth. -/
noncomputable def Try.pinned : Pinned := { name := "ytmfookomcgbbkab", sum := "d47b89d226dd6ac6b75aebf6231d1d418c671b1ff1e411cfa10396150b549f7d", checked := Try.checked }
namespace Rows
def none {H : Type} : Left H := { results := [], args := [] }

/-- 'laws.FnExactLiftAt': WHATEVER THE INPUT: true; the input reads as it did. -/
def fnExactLiftAtSpec : ChangeSpec := { name := "fnExactLiftAt", fn := fun _ => fun
  | [d1, d2] => { results := [.lit (.bool true)], args := [d1, d2] }
  | _ => none }
def fnExactLiftAtRow : OpenClaim := { program := "ytmfookomcgbbkab", sum := "d47b89d226dd6ac6b75aebf6231d1d418c671b1ff1e411cfa10396150b549f7d", func := "loop.example/g01256/laws.FnExactLiftAt", spec := "fnExactLiftAt", inPlace := ["math.archFloor", "math.Float64bits", "math.Float64frombits", "math.archTrunc"], unfollowed := true, recurses := true, apart := false }
def FnExactLiftAtSaid : Prop := fnExactLiftAtRow.holds Try.pinned (OpenSpec.ofChange fnExactLiftAtSpec)

/-- ITS FALSE NEIGHBOUR: 'it returns false'. Refute it at one input. -/
def fnExactLiftAtWrong : ChangeSpec := { name := "fnExactLiftAt", fn := fun _ => fun
  | [d1, d2] => { results := [.lit (.bool false)], args := [d1, d2] }
  | _ => none }
def FnExactLiftAtWrongFalsely : Prop := fnExactLiftAtRow.holds Try.pinned (OpenSpec.ofChange fnExactLiftAtWrong)

/-- 'laws.FnExactDragAt': WHATEVER THE INPUT: true; the input reads as it did. -/
def fnExactDragAtSpec : ChangeSpec := { name := "fnExactDragAt", fn := fun _ => fun
  | [d1, d2] => { results := [.lit (.bool true)], args := [d1, d2] }
  | _ => none }
def fnExactDragAtRow : OpenClaim := { program := "ytmfookomcgbbkab", sum := "d47b89d226dd6ac6b75aebf6231d1d418c671b1ff1e411cfa10396150b549f7d", func := "loop.example/g01256/laws.FnExactDragAt", spec := "fnExactDragAt", inPlace := ["math.archFloor", "math.Float64bits", "math.Float64frombits", "math.archTrunc"], unfollowed := true, recurses := true, apart := false }
def FnExactDragAtSaid : Prop := fnExactDragAtRow.holds Try.pinned (OpenSpec.ofChange fnExactDragAtSpec)

/-- ITS FALSE NEIGHBOUR: 'it returns false'. Refute it at one input. -/
def fnExactDragAtWrong : ChangeSpec := { name := "fnExactDragAt", fn := fun _ => fun
  | [d1, d2] => { results := [.lit (.bool false)], args := [d1, d2] }
  | _ => none }
def FnExactDragAtWrongFalsely : Prop := fnExactDragAtRow.holds Try.pinned (OpenSpec.ofChange fnExactDragAtWrong)

/-- 'laws.FnExactSlopeAt': WHATEVER THE INPUT: true; the input reads as it did. -/
def fnExactSlopeAtSpec : ChangeSpec := { name := "fnExactSlopeAt", fn := fun _ => fun
  | [d1, d2] => { results := [.lit (.bool true)], args := [d1, d2] }
  | _ => none }
def fnExactSlopeAtRow : OpenClaim := { program := "ytmfookomcgbbkab", sum := "d47b89d226dd6ac6b75aebf6231d1d418c671b1ff1e411cfa10396150b549f7d", func := "loop.example/g01256/laws.FnExactSlopeAt", spec := "fnExactSlopeAt", inPlace := ["math.archFloor", "math.Float64bits", "math.Float64frombits", "math.archTrunc"], unfollowed := true, recurses := true, apart := false }
def FnExactSlopeAtSaid : Prop := fnExactSlopeAtRow.holds Try.pinned (OpenSpec.ofChange fnExactSlopeAtSpec)

/-- ITS FALSE NEIGHBOUR: 'it returns false'. Refute it at one input. -/
def fnExactSlopeAtWrong : ChangeSpec := { name := "fnExactSlopeAt", fn := fun _ => fun
  | [d1, d2] => { results := [.lit (.bool false)], args := [d1, d2] }
  | _ => none }
def FnExactSlopeAtWrongFalsely : Prop := fnExactSlopeAtRow.holds Try.pinned (OpenSpec.ofChange fnExactSlopeAtWrong)

/-- 'laws.FnExactGlideAt': WHATEVER THE INPUT: true; the input reads as it did. -/
def fnExactGlideAtSpec : ChangeSpec := { name := "fnExactGlideAt", fn := fun _ => fun
  | [d1, d2] => { results := [.lit (.bool true)], args := [d1, d2] }
  | _ => none }
def fnExactGlideAtRow : OpenClaim := { program := "ytmfookomcgbbkab", sum := "d47b89d226dd6ac6b75aebf6231d1d418c671b1ff1e411cfa10396150b549f7d", func := "loop.example/g01256/laws.FnExactGlideAt", spec := "fnExactGlideAt", inPlace := ["math.archFloor", "math.Float64bits", "math.Float64frombits", "math.archTrunc"], unfollowed := true, recurses := true, apart := false }
def FnExactGlideAtSaid : Prop := fnExactGlideAtRow.holds Try.pinned (OpenSpec.ofChange fnExactGlideAtSpec)

/-- ITS FALSE NEIGHBOUR: 'it returns false'. Refute it at one input. -/
def fnExactGlideAtWrong : ChangeSpec := { name := "fnExactGlideAt", fn := fun _ => fun
  | [d1, d2] => { results := [.lit (.bool false)], args := [d1, d2] }
  | _ => none }
def FnExactGlideAtWrongFalsely : Prop := fnExactGlideAtRow.holds Try.pinned (OpenSpec.ofChange fnExactGlideAtWrong)

/-- 'laws.FnExactBestGlide': WHATEVER THE INPUT: true; the input reads as it did. -/
def fnExactBestGlideSpec : ChangeSpec := { name := "fnExactBestGlide", fn := fun _ => fun
  | [d] => { results := [.lit (.bool true)], args := [d] }
  | _ => none }
def fnExactBestGlideRow : OpenClaim := { program := "ytmfookomcgbbkab", sum := "d47b89d226dd6ac6b75aebf6231d1d418c671b1ff1e411cfa10396150b549f7d", func := "loop.example/g01256/laws.FnExactBestGlide", spec := "fnExactBestGlide", inPlace := ["math.Float64bits", "math.Float64frombits"], unfollowed := true, recurses := true, apart := false }
def FnExactBestGlideSaid : Prop := fnExactBestGlideRow.holds Try.pinned (OpenSpec.ofChange fnExactBestGlideSpec)

/-- ITS FALSE NEIGHBOUR: 'it returns false'. Refute it at one input. -/
def fnExactBestGlideWrong : ChangeSpec := { name := "fnExactBestGlide", fn := fun _ => fun
  | [d] => { results := [.lit (.bool false)], args := [d] }
  | _ => none }
def FnExactBestGlideWrongFalsely : Prop := fnExactBestGlideRow.holds Try.pinned (OpenSpec.ofChange fnExactBestGlideWrong)

/-- 'laws.FnExactZeroLift': WHATEVER THE INPUT: true; the input reads as it did. -/
def fnExactZeroLiftSpec : ChangeSpec := { name := "fnExactZeroLift", fn := fun _ => fun
  | [d] => { results := [.lit (.bool true)], args := [d] }
  | _ => none }
def fnExactZeroLiftRow : OpenClaim := { program := "ytmfookomcgbbkab", sum := "d47b89d226dd6ac6b75aebf6231d1d418c671b1ff1e411cfa10396150b549f7d", func := "loop.example/g01256/laws.FnExactZeroLift", spec := "fnExactZeroLift", inPlace := ["math.Float64bits", "math.Float64frombits"], unfollowed := true, recurses := true, apart := false }
def FnExactZeroLiftSaid : Prop := fnExactZeroLiftRow.holds Try.pinned (OpenSpec.ofChange fnExactZeroLiftSpec)

/-- ITS FALSE NEIGHBOUR: 'it returns false'. Refute it at one input. -/
def fnExactZeroLiftWrong : ChangeSpec := { name := "fnExactZeroLift", fn := fun _ => fun
  | [d] => { results := [.lit (.bool false)], args := [d] }
  | _ => none }
def FnExactZeroLiftWrongFalsely : Prop := fnExactZeroLiftRow.holds Try.pinned (OpenSpec.ofChange fnExactZeroLiftWrong)

/-- 'laws.FnExactLiftArea': WHATEVER THE INPUT: true; the input reads as it did. -/
def fnExactLiftAreaSpec : ChangeSpec := { name := "fnExactLiftArea", fn := fun _ => fun
  | [d] => { results := [.lit (.bool true)], args := [d] }
  | _ => none }
def fnExactLiftAreaRow : OpenClaim := { program := "ytmfookomcgbbkab", sum := "d47b89d226dd6ac6b75aebf6231d1d418c671b1ff1e411cfa10396150b549f7d", func := "loop.example/g01256/laws.FnExactLiftArea", spec := "fnExactLiftArea", inPlace := ["math.Float64bits", "math.Float64frombits"], unfollowed := true, recurses := true, apart := false }
def FnExactLiftAreaSaid : Prop := fnExactLiftAreaRow.holds Try.pinned (OpenSpec.ofChange fnExactLiftAreaSpec)

/-- ITS FALSE NEIGHBOUR: 'it returns false'. Refute it at one input. -/
def fnExactLiftAreaWrong : ChangeSpec := { name := "fnExactLiftArea", fn := fun _ => fun
  | [d] => { results := [.lit (.bool false)], args := [d] }
  | _ => none }
def FnExactLiftAreaWrongFalsely : Prop := fnExactLiftAreaRow.holds Try.pinned (OpenSpec.ofChange fnExactLiftAreaWrong)

/-- 'laws.FnExactLiftApart': WHATEVER THE INPUT: true; the input reads as it did. -/
def fnExactLiftApartSpec : ChangeSpec := { name := "fnExactLiftApart", fn := fun _ => fun
  | [d1, d2, d3, d4] => { results := [.lit (.bool true)], args := [d1, d2, d3, d4] }
  | _ => none }
def fnExactLiftApartRow : OpenClaim := { program := "ytmfookomcgbbkab", sum := "d47b89d226dd6ac6b75aebf6231d1d418c671b1ff1e411cfa10396150b549f7d", func := "loop.example/g01256/laws.FnExactLiftApart", spec := "fnExactLiftApart", inPlace := ["math.archFloor", "math.Float64bits", "math.Float64frombits", "math.archTrunc"], unfollowed := true, recurses := true, apart := false }
def FnExactLiftApartSaid : Prop := fnExactLiftApartRow.holds Try.pinned (OpenSpec.ofChange fnExactLiftApartSpec)

/-- ITS FALSE NEIGHBOUR: 'it returns false'. Refute it at one input. -/
def fnExactLiftApartWrong : ChangeSpec := { name := "fnExactLiftApart", fn := fun _ => fun
  | [d1, d2, d3, d4] => { results := [.lit (.bool false)], args := [d1, d2, d3, d4] }
  | _ => none }
def FnExactLiftApartWrongFalsely : Prop := fnExactLiftApartRow.holds Try.pinned (OpenSpec.ofChange fnExactLiftApartWrong)

/-- 'laws.FnExactFitDrags': WHATEVER THE INPUT: true; the input reads as it did. -/
def fnExactFitDragsSpec : ChangeSpec := { name := "fnExactFitDrags", fn := fun _ => fun
  | [d1, d2, d3] => { results := [.lit (.bool true)], args := [d1, d2, d3] }
  | _ => none }
def fnExactFitDragsRow : OpenClaim := { program := "ytmfookomcgbbkab", sum := "d47b89d226dd6ac6b75aebf6231d1d418c671b1ff1e411cfa10396150b549f7d", func := "loop.example/g01256/laws.FnExactFitDrags", spec := "fnExactFitDrags", inPlace := ["math.Float64bits", "math.Float64frombits"], unfollowed := true, recurses := true, apart := false }
def FnExactFitDragsSaid : Prop := fnExactFitDragsRow.holds Try.pinned (OpenSpec.ofChange fnExactFitDragsSpec)

/-- ITS FALSE NEIGHBOUR: 'it returns false'. Refute it at one input. -/
def fnExactFitDragsWrong : ChangeSpec := { name := "fnExactFitDrags", fn := fun _ => fun
  | [d1, d2, d3] => { results := [.lit (.bool false)], args := [d1, d2, d3] }
  | _ => none }
def FnExactFitDragsWrongFalsely : Prop := fnExactFitDragsRow.holds Try.pinned (OpenSpec.ofChange fnExactFitDragsWrong)

/-- 'laws.FnExactPlateProfile': WHATEVER THE INPUT: true; the input reads as it did. -/
def fnExactPlateProfileSpec : ChangeSpec := { name := "fnExactPlateProfile", fn := fun _ => fun
  | [d] => { results := [.lit (.bool true)], args := [d] }
  | _ => none }
def fnExactPlateProfileRow : OpenClaim := { program := "ytmfookomcgbbkab", sum := "d47b89d226dd6ac6b75aebf6231d1d418c671b1ff1e411cfa10396150b549f7d", func := "loop.example/g01256/laws.FnExactPlateProfile", spec := "fnExactPlateProfile", inPlace := ["math.Float64frombits", "math.Float64bits"], unfollowed := true, recurses := true, apart := false }
def FnExactPlateProfileSaid : Prop := fnExactPlateProfileRow.holds Try.pinned (OpenSpec.ofChange fnExactPlateProfileSpec)

/-- ITS FALSE NEIGHBOUR: 'it returns false'. Refute it at one input. -/
def fnExactPlateProfileWrong : ChangeSpec := { name := "fnExactPlateProfile", fn := fun _ => fun
  | [d] => { results := [.lit (.bool false)], args := [d] }
  | _ => none }
def FnExactPlateProfileWrongFalsely : Prop := fnExactPlateProfileRow.holds Try.pinned (OpenSpec.ofChange fnExactPlateProfileWrong)

/-- 'laws.FnProfiles': WHATEVER THE INPUT: true; the input reads as it did. -/
def fnProfilesSpec : ChangeSpec := { name := "fnProfiles", fn := fun _ => fun
  | [d1, d2] => { results := [.lit (.bool true)], args := [d1, d2] }
  | _ => none }
def fnProfilesRow : OpenClaim := { program := "ytmfookomcgbbkab", sum := "d47b89d226dd6ac6b75aebf6231d1d418c671b1ff1e411cfa10396150b549f7d", func := "loop.example/g01256/laws.FnProfiles", spec := "fnProfiles", inPlace := ["math.Float64frombits", "math.Float64bits", "math.archFloor", "math.archTrunc", "math.Float32bits"], unfollowed := true, recurses := true, apart := false }
def FnProfilesSaid : Prop := fnProfilesRow.holds Try.pinned (OpenSpec.ofChange fnProfilesSpec)

/-- ITS FALSE NEIGHBOUR: 'it returns false'. Refute it at one input. -/
def fnProfilesWrong : ChangeSpec := { name := "fnProfiles", fn := fun _ => fun
  | [d1, d2] => { results := [.lit (.bool false)], args := [d1, d2] }
  | _ => none }
def FnProfilesWrongFalsely : Prop := fnProfilesRow.holds Try.pinned (OpenSpec.ofChange fnProfilesWrong)

/- THE SECOND FORM. 'bulk': how many values and letters a reading holds, each counted each time it is reached (what is shared counts as often as it is met; a slice's spare places count too). A statement '..UptoSaid' is the law's where the arguments, and the package variables that the reading takes, are together of bulk at most 1048576: NARROWER than '..Said'. Prove '..Said' where nothing that the law and all that it calls make is longer than what came in: it says more and counts as full. Else prove '..UptoSaid'. A law counts once. -/
mutual
def uptoBulk {H : Type} : DataW H → Nat
  | .lit (.string bytes) => bytes.length + 1
  | .lit _ => 1
  | .nil => 1
  | .ptr d => uptoBulk d + 1
  | .slice elems spare => uptoBulkAll elems + uptoBulkAll spare + 1
  | .agg parts => uptoBulkAll parts + 1
  | .iface _ d => uptoBulk d + 1
  | .map entries => uptoBulkEntries entries + 1
  | .held _ => 1
def uptoBulkAll {H : Type} : List (DataW H) → Nat
  | [] => 0
  | d :: r => uptoBulk d + uptoBulkAll r
def uptoBulkEntries {H : Type} : List (Lit × DataW H) → Nat
  | [] => 0
  | x :: r => uptoBulkEntry x + uptoBulkEntries r
def uptoBulkEntry {H : Type} : Lit × DataW H → Nat
  | (.string bytes, d) => bytes.length + uptoBulk d + 1
  | (_, d) => uptoBulk d + 1
 end
def uptoSmall : (H : Type) → List (DataW H) → Bool := fun _ ds => decide (uptoBulkAll ds ≤ 1048576)
def OpenSpec.upto (s : _root_.Go.ChangeSpec) : _root_.Go.OpenSpec := { _root_.Go.OpenSpec.ofChange s with cond := some uptoSmall }

/-- 'laws.FnExactLiftAt', WHERE WHAT IT READS IS OF BULK AT MOST 1048576: true; the input reads as it did. -/
def fnExactLiftAtUptoRow : OpenClaim := { program := "ytmfookomcgbbkab", sum := "d47b89d226dd6ac6b75aebf6231d1d418c671b1ff1e411cfa10396150b549f7d", func := "loop.example/g01256/laws.FnExactLiftAt", spec := "fnExactLiftAt", inPlace := ["math.archFloor", "math.Float64bits", "math.Float64frombits", "math.archTrunc"], unfollowed := true, recurses := true, apart := false, narrowed := true }
def FnExactLiftAtUptoSaid : Prop := fnExactLiftAtUptoRow.holds Try.pinned (OpenSpec.upto fnExactLiftAtSpec)

/-- 'laws.FnExactDragAt', WHERE WHAT IT READS IS OF BULK AT MOST 1048576: true; the input reads as it did. -/
def fnExactDragAtUptoRow : OpenClaim := { program := "ytmfookomcgbbkab", sum := "d47b89d226dd6ac6b75aebf6231d1d418c671b1ff1e411cfa10396150b549f7d", func := "loop.example/g01256/laws.FnExactDragAt", spec := "fnExactDragAt", inPlace := ["math.archFloor", "math.Float64bits", "math.Float64frombits", "math.archTrunc"], unfollowed := true, recurses := true, apart := false, narrowed := true }
def FnExactDragAtUptoSaid : Prop := fnExactDragAtUptoRow.holds Try.pinned (OpenSpec.upto fnExactDragAtSpec)

/-- 'laws.FnExactSlopeAt', WHERE WHAT IT READS IS OF BULK AT MOST 1048576: true; the input reads as it did. -/
def fnExactSlopeAtUptoRow : OpenClaim := { program := "ytmfookomcgbbkab", sum := "d47b89d226dd6ac6b75aebf6231d1d418c671b1ff1e411cfa10396150b549f7d", func := "loop.example/g01256/laws.FnExactSlopeAt", spec := "fnExactSlopeAt", inPlace := ["math.archFloor", "math.Float64bits", "math.Float64frombits", "math.archTrunc"], unfollowed := true, recurses := true, apart := false, narrowed := true }
def FnExactSlopeAtUptoSaid : Prop := fnExactSlopeAtUptoRow.holds Try.pinned (OpenSpec.upto fnExactSlopeAtSpec)

/-- 'laws.FnExactGlideAt', WHERE WHAT IT READS IS OF BULK AT MOST 1048576: true; the input reads as it did. -/
def fnExactGlideAtUptoRow : OpenClaim := { program := "ytmfookomcgbbkab", sum := "d47b89d226dd6ac6b75aebf6231d1d418c671b1ff1e411cfa10396150b549f7d", func := "loop.example/g01256/laws.FnExactGlideAt", spec := "fnExactGlideAt", inPlace := ["math.archFloor", "math.Float64bits", "math.Float64frombits", "math.archTrunc"], unfollowed := true, recurses := true, apart := false, narrowed := true }
def FnExactGlideAtUptoSaid : Prop := fnExactGlideAtUptoRow.holds Try.pinned (OpenSpec.upto fnExactGlideAtSpec)

/-- 'laws.FnExactBestGlide', WHERE WHAT IT READS IS OF BULK AT MOST 1048576: true; the input reads as it did. -/
def fnExactBestGlideUptoRow : OpenClaim := { program := "ytmfookomcgbbkab", sum := "d47b89d226dd6ac6b75aebf6231d1d418c671b1ff1e411cfa10396150b549f7d", func := "loop.example/g01256/laws.FnExactBestGlide", spec := "fnExactBestGlide", inPlace := ["math.Float64bits", "math.Float64frombits"], unfollowed := true, recurses := true, apart := false, narrowed := true }
def FnExactBestGlideUptoSaid : Prop := fnExactBestGlideUptoRow.holds Try.pinned (OpenSpec.upto fnExactBestGlideSpec)

/-- 'laws.FnExactZeroLift', WHERE WHAT IT READS IS OF BULK AT MOST 1048576: true; the input reads as it did. -/
def fnExactZeroLiftUptoRow : OpenClaim := { program := "ytmfookomcgbbkab", sum := "d47b89d226dd6ac6b75aebf6231d1d418c671b1ff1e411cfa10396150b549f7d", func := "loop.example/g01256/laws.FnExactZeroLift", spec := "fnExactZeroLift", inPlace := ["math.Float64bits", "math.Float64frombits"], unfollowed := true, recurses := true, apart := false, narrowed := true }
def FnExactZeroLiftUptoSaid : Prop := fnExactZeroLiftUptoRow.holds Try.pinned (OpenSpec.upto fnExactZeroLiftSpec)

/-- 'laws.FnExactLiftArea', WHERE WHAT IT READS IS OF BULK AT MOST 1048576: true; the input reads as it did. -/
def fnExactLiftAreaUptoRow : OpenClaim := { program := "ytmfookomcgbbkab", sum := "d47b89d226dd6ac6b75aebf6231d1d418c671b1ff1e411cfa10396150b549f7d", func := "loop.example/g01256/laws.FnExactLiftArea", spec := "fnExactLiftArea", inPlace := ["math.Float64bits", "math.Float64frombits"], unfollowed := true, recurses := true, apart := false, narrowed := true }
def FnExactLiftAreaUptoSaid : Prop := fnExactLiftAreaUptoRow.holds Try.pinned (OpenSpec.upto fnExactLiftAreaSpec)

/-- 'laws.FnExactLiftApart', WHERE WHAT IT READS IS OF BULK AT MOST 1048576: true; the input reads as it did. -/
def fnExactLiftApartUptoRow : OpenClaim := { program := "ytmfookomcgbbkab", sum := "d47b89d226dd6ac6b75aebf6231d1d418c671b1ff1e411cfa10396150b549f7d", func := "loop.example/g01256/laws.FnExactLiftApart", spec := "fnExactLiftApart", inPlace := ["math.archFloor", "math.Float64bits", "math.Float64frombits", "math.archTrunc"], unfollowed := true, recurses := true, apart := false, narrowed := true }
def FnExactLiftApartUptoSaid : Prop := fnExactLiftApartUptoRow.holds Try.pinned (OpenSpec.upto fnExactLiftApartSpec)

/-- 'laws.FnExactFitDrags', WHERE WHAT IT READS IS OF BULK AT MOST 1048576: true; the input reads as it did. -/
def fnExactFitDragsUptoRow : OpenClaim := { program := "ytmfookomcgbbkab", sum := "d47b89d226dd6ac6b75aebf6231d1d418c671b1ff1e411cfa10396150b549f7d", func := "loop.example/g01256/laws.FnExactFitDrags", spec := "fnExactFitDrags", inPlace := ["math.Float64bits", "math.Float64frombits"], unfollowed := true, recurses := true, apart := false, narrowed := true }
def FnExactFitDragsUptoSaid : Prop := fnExactFitDragsUptoRow.holds Try.pinned (OpenSpec.upto fnExactFitDragsSpec)

/-- 'laws.FnExactPlateProfile', WHERE WHAT IT READS IS OF BULK AT MOST 1048576: true; the input reads as it did. -/
def fnExactPlateProfileUptoRow : OpenClaim := { program := "ytmfookomcgbbkab", sum := "d47b89d226dd6ac6b75aebf6231d1d418c671b1ff1e411cfa10396150b549f7d", func := "loop.example/g01256/laws.FnExactPlateProfile", spec := "fnExactPlateProfile", inPlace := ["math.Float64frombits", "math.Float64bits"], unfollowed := true, recurses := true, apart := false, narrowed := true }
def FnExactPlateProfileUptoSaid : Prop := fnExactPlateProfileUptoRow.holds Try.pinned (OpenSpec.upto fnExactPlateProfileSpec)

/-- 'laws.FnProfiles', WHERE WHAT IT READS IS OF BULK AT MOST 1048576: true; the input reads as it did. -/
def fnProfilesUptoRow : OpenClaim := { program := "ytmfookomcgbbkab", sum := "d47b89d226dd6ac6b75aebf6231d1d418c671b1ff1e411cfa10396150b549f7d", func := "loop.example/g01256/laws.FnProfiles", spec := "fnProfiles", inPlace := ["math.Float64frombits", "math.Float64bits", "math.archFloor", "math.archTrunc", "math.Float32bits"], unfollowed := true, recurses := true, apart := false, narrowed := true }
def FnProfilesUptoSaid : Prop := fnProfilesUptoRow.holds Try.pinned (OpenSpec.upto fnProfilesSpec)

end Rows
end Go.Proofs.Ytmfookomcgbbkab
