/-
  No cell of these rows narrows 'for every input' (looked for: loops, veiled, ifaces, maps, wideKeys, modest, calm, conditions, laid).
  DERIVED. THE GIVEN ROWS OF THIS SEAT. 14 by the template 'for every input the law returns true; each argument reads behind the call as it read before'; 0 by the template 'total and deterministic' (their statements: YtnmklggeoepnlaaTotals.lean).
  GIVEN WITH THE SEED: the statements are not yours to turn. If you find one false, say at which input.
  Laid BY PROGRAM, IN A SANDBOX (cutbox-rows.mjs): the forced cells as the released guide's own fill.sh prints them over the translation 7b8490f7ad8eac55… (all of the seat's roots in one cut). By AI agents, Wed Nov 11 2026. No macro, syntax, notation, axiom, sorry.
-/
import Derived.Test.YtnmklggeoepnlaaChecked
import GoSem.Claim
import GoSem.ClaimJoined
import GoSem.ClaimMapViews
import Derived.JoinedTies
import Derived.KernelRfl
namespace Go.Proofs.Ytnmklggeoepnlaa
/- THE CELL 'sum', in the pinned program and in every row, IS THE sha256 OF THE DUMP (.gsa) THAT YtnmklggeoepnlaaProg.lean LOADS. Nothing in Lean hashes anything: it is a label: what it is worth is what the hold of that sum in a sandbox is worth. -/
noncomputable def Try.pinned : Pinned := { name := "ytnmklggeoepnlaa", sum := "7b8490f7ad8eac556dbe37559e4ef124a27f7db87bd346afe7b17a2ed4914beb", checked := Try.checked }
namespace Rows
def none {H : Type} : Left H := { results := [], args := [] }

/-- 'laws.FnExactValidFarm': WHATEVER THE INPUT: true; the input reads as it did. -/
def fnExactValidFarmSpec : ChangeSpec := { name := "fnExactValidFarm", fn := fun _ => fun
  | [d] => { results := [.lit (.bool true)], args := [d] }
  | _ => none }
def fnExactValidFarmRow : OpenClaim := { program := "ytnmklggeoepnlaa", sum := "7b8490f7ad8eac556dbe37559e4ef124a27f7db87bd346afe7b17a2ed4914beb", func := "loop.example/g01256/laws.FnExactValidFarm", spec := "fnExactValidFarm", inPlace := ["math.Float64bits", "math.Float64frombits"], unfollowed := true, recurses := true, apart := false }
def FnExactValidFarmSaid : Prop := fnExactValidFarmRow.holds Try.pinned (OpenSpec.ofChange fnExactValidFarmSpec)

/-- ITS FALSE NEIGHBOUR: 'it returns false'. Refute it at one input. -/
def fnExactValidFarmWrong : ChangeSpec := { name := "fnExactValidFarm", fn := fun _ => fun
  | [d] => { results := [.lit (.bool false)], args := [d] }
  | _ => none }
def FnExactValidFarmWrongFalsely : Prop := fnExactValidFarmRow.holds Try.pinned (OpenSpec.ofChange fnExactValidFarmWrong)

/-- 'laws.FnExactSameFarm': WHATEVER THE INPUT: true; the input reads as it did. -/
def fnExactSameFarmSpec : ChangeSpec := { name := "fnExactSameFarm", fn := fun _ => fun
  | [d1, d2] => { results := [.lit (.bool true)], args := [d1, d2] }
  | _ => none }
def fnExactSameFarmRow : OpenClaim := { program := "ytnmklggeoepnlaa", sum := "7b8490f7ad8eac556dbe37559e4ef124a27f7db87bd346afe7b17a2ed4914beb", func := "loop.example/g01256/laws.FnExactSameFarm", spec := "fnExactSameFarm", inPlace := ["math.Float32bits"], unfollowed := true, recurses := true, apart := false }
def FnExactSameFarmSaid : Prop := fnExactSameFarmRow.holds Try.pinned (OpenSpec.ofChange fnExactSameFarmSpec)

/-- ITS FALSE NEIGHBOUR: 'it returns false'. Refute it at one input. -/
def fnExactSameFarmWrong : ChangeSpec := { name := "fnExactSameFarm", fn := fun _ => fun
  | [d1, d2] => { results := [.lit (.bool false)], args := [d1, d2] }
  | _ => none }
def FnExactSameFarmWrongFalsely : Prop := fnExactSameFarmRow.holds Try.pinned (OpenSpec.ofChange fnExactSameFarmWrong)

/-- 'laws.FnExactValidBoat': WHATEVER THE INPUT: true; the input reads as it did. -/
def fnExactValidBoatSpec : ChangeSpec := { name := "fnExactValidBoat", fn := fun _ => fun
  | [d] => { results := [.lit (.bool true)], args := [d] }
  | _ => none }
def fnExactValidBoatRow : OpenClaim := { program := "ytnmklggeoepnlaa", sum := "7b8490f7ad8eac556dbe37559e4ef124a27f7db87bd346afe7b17a2ed4914beb", func := "loop.example/g01256/laws.FnExactValidBoat", spec := "fnExactValidBoat", inPlace := ["math.Float64bits", "math.Float64frombits"], apart := false }
def FnExactValidBoatSaid : Prop := fnExactValidBoatRow.holds Try.pinned (OpenSpec.ofChange fnExactValidBoatSpec)

/-- ITS FALSE NEIGHBOUR: 'it returns false'. Refute it at one input. -/
def fnExactValidBoatWrong : ChangeSpec := { name := "fnExactValidBoat", fn := fun _ => fun
  | [d] => { results := [.lit (.bool false)], args := [d] }
  | _ => none }
def FnExactValidBoatWrongFalsely : Prop := fnExactValidBoatRow.holds Try.pinned (OpenSpec.ofChange fnExactValidBoatWrong)

/-- 'laws.FnExactRowFarm': WHATEVER THE INPUT: true; the input reads as it did. -/
def fnExactRowFarmSpec : ChangeSpec := { name := "fnExactRowFarm", fn := fun _ => fun
  | [d1, d2, d3, d4, d5] => { results := [.lit (.bool true)], args := [d1, d2, d3, d4, d5] }
  | _ => none }
def fnExactRowFarmRow : OpenClaim := { program := "ytnmklggeoepnlaa", sum := "7b8490f7ad8eac556dbe37559e4ef124a27f7db87bd346afe7b17a2ed4914beb", func := "loop.example/g01256/laws.FnExactRowFarm", spec := "fnExactRowFarm", inPlace := ["math.Float64bits", "math.Float64frombits"], unfollowed := true, recurses := true, apart := false }
def FnExactRowFarmSaid : Prop := fnExactRowFarmRow.holds Try.pinned (OpenSpec.ofChange fnExactRowFarmSpec)

/-- ITS FALSE NEIGHBOUR: 'it returns false'. Refute it at one input. -/
def fnExactRowFarmWrong : ChangeSpec := { name := "fnExactRowFarm", fn := fun _ => fun
  | [d1, d2, d3, d4, d5] => { results := [.lit (.bool false)], args := [d1, d2, d3, d4, d5] }
  | _ => none }
def FnExactRowFarmWrongFalsely : Prop := fnExactRowFarmRow.holds Try.pinned (OpenSpec.ofChange fnExactRowFarmWrong)

/-- 'laws.FnExactAddPlace': WHATEVER THE INPUT: true; the input reads as it did. -/
def fnExactAddPlaceSpec : ChangeSpec := { name := "fnExactAddPlace", fn := fun _ => fun
  | [d1, d2, d3] => { results := [.lit (.bool true)], args := [d1, d2, d3] }
  | _ => none }
def fnExactAddPlaceRow : OpenClaim := { program := "ytnmklggeoepnlaa", sum := "7b8490f7ad8eac556dbe37559e4ef124a27f7db87bd346afe7b17a2ed4914beb", func := "loop.example/g01256/laws.FnExactAddPlace", spec := "fnExactAddPlace", inPlace := ["math.Float64bits", "math.Float64frombits"], unfollowed := true, recurses := true, apart := false }
def FnExactAddPlaceSaid : Prop := fnExactAddPlaceRow.holds Try.pinned (OpenSpec.ofChange fnExactAddPlaceSpec)

/-- ITS FALSE NEIGHBOUR: 'it returns false'. Refute it at one input. -/
def fnExactAddPlaceWrong : ChangeSpec := { name := "fnExactAddPlace", fn := fun _ => fun
  | [d1, d2, d3] => { results := [.lit (.bool false)], args := [d1, d2, d3] }
  | _ => none }
def FnExactAddPlaceWrongFalsely : Prop := fnExactAddPlaceRow.holds Try.pinned (OpenSpec.ofChange fnExactAddPlaceWrong)

/-- 'laws.FnExactMovePlace': WHATEVER THE INPUT: true; the input reads as it did. -/
def fnExactMovePlaceSpec : ChangeSpec := { name := "fnExactMovePlace", fn := fun _ => fun
  | [d1, d2, d3, d4] => { results := [.lit (.bool true)], args := [d1, d2, d3, d4] }
  | _ => none }
def fnExactMovePlaceRow : OpenClaim := { program := "ytnmklggeoepnlaa", sum := "7b8490f7ad8eac556dbe37559e4ef124a27f7db87bd346afe7b17a2ed4914beb", func := "loop.example/g01256/laws.FnExactMovePlace", spec := "fnExactMovePlace", inPlace := ["math.Float64bits", "math.Float64frombits"], unfollowed := true, recurses := true, apart := false }
def FnExactMovePlaceSaid : Prop := fnExactMovePlaceRow.holds Try.pinned (OpenSpec.ofChange fnExactMovePlaceSpec)

/-- ITS FALSE NEIGHBOUR: 'it returns false'. Refute it at one input. -/
def fnExactMovePlaceWrong : ChangeSpec := { name := "fnExactMovePlace", fn := fun _ => fun
  | [d1, d2, d3, d4] => { results := [.lit (.bool false)], args := [d1, d2, d3, d4] }
  | _ => none }
def FnExactMovePlaceWrongFalsely : Prop := fnExactMovePlaceRow.holds Try.pinned (OpenSpec.ofChange fnExactMovePlaceWrong)

/-- 'laws.FnExactDropPlace': WHATEVER THE INPUT: true; the input reads as it did. -/
def fnExactDropPlaceSpec : ChangeSpec := { name := "fnExactDropPlace", fn := fun _ => fun
  | [d1, d2] => { results := [.lit (.bool true)], args := [d1, d2] }
  | _ => none }
def fnExactDropPlaceRow : OpenClaim := { program := "ytnmklggeoepnlaa", sum := "7b8490f7ad8eac556dbe37559e4ef124a27f7db87bd346afe7b17a2ed4914beb", func := "loop.example/g01256/laws.FnExactDropPlace", spec := "fnExactDropPlace", inPlace := ["math.Float64bits", "math.Float64frombits"], unfollowed := true, recurses := true, apart := false }
def FnExactDropPlaceSaid : Prop := fnExactDropPlaceRow.holds Try.pinned (OpenSpec.ofChange fnExactDropPlaceSpec)

/-- ITS FALSE NEIGHBOUR: 'it returns false'. Refute it at one input. -/
def fnExactDropPlaceWrong : ChangeSpec := { name := "fnExactDropPlace", fn := fun _ => fun
  | [d1, d2] => { results := [.lit (.bool false)], args := [d1, d2] }
  | _ => none }
def FnExactDropPlaceWrongFalsely : Prop := fnExactDropPlaceRow.holds Try.pinned (OpenSpec.ofChange fnExactDropPlaceWrong)

/-- 'laws.FnExactWakeAt': WHATEVER THE INPUT: true; the input reads as it did. -/
def fnExactWakeAtSpec : ChangeSpec := { name := "fnExactWakeAt", fn := fun _ => fun
  | [d1, d2, d3, d4, d5] => { results := [.lit (.bool true)], args := [d1, d2, d3, d4, d5] }
  | _ => none }
def fnExactWakeAtRow : OpenClaim := { program := "ytnmklggeoepnlaa", sum := "7b8490f7ad8eac556dbe37559e4ef124a27f7db87bd346afe7b17a2ed4914beb", func := "loop.example/g01256/laws.FnExactWakeAt", spec := "fnExactWakeAt", inPlace := ["math.Float64frombits", "math.Float64bits"], unfollowed := true, recurses := true, apart := false }
def FnExactWakeAtSaid : Prop := fnExactWakeAtRow.holds Try.pinned (OpenSpec.ofChange fnExactWakeAtSpec)

/-- ITS FALSE NEIGHBOUR: 'it returns false'. Refute it at one input. -/
def fnExactWakeAtWrong : ChangeSpec := { name := "fnExactWakeAt", fn := fun _ => fun
  | [d1, d2, d3, d4, d5] => { results := [.lit (.bool false)], args := [d1, d2, d3, d4, d5] }
  | _ => none }
def FnExactWakeAtWrongFalsely : Prop := fnExactWakeAtRow.holds Try.pinned (OpenSpec.ofChange fnExactWakeAtWrong)

/-- 'laws.FnExactLossAt': WHATEVER THE INPUT: true; the input reads as it did. -/
def fnExactLossAtSpec : ChangeSpec := { name := "fnExactLossAt", fn := fun _ => fun
  | [d1, d2, d3, d4] => { results := [.lit (.bool true)], args := [d1, d2, d3, d4] }
  | _ => none }
def fnExactLossAtRow : OpenClaim := { program := "ytnmklggeoepnlaa", sum := "7b8490f7ad8eac556dbe37559e4ef124a27f7db87bd346afe7b17a2ed4914beb", func := "loop.example/g01256/laws.FnExactLossAt", spec := "fnExactLossAt", inPlace := ["math.Float64frombits", "math.sqrt", "math.Float64bits"], unfollowed := true, recurses := true, apart := false }
def FnExactLossAtSaid : Prop := fnExactLossAtRow.holds Try.pinned (OpenSpec.ofChange fnExactLossAtSpec)

/-- ITS FALSE NEIGHBOUR: 'it returns false'. Refute it at one input. -/
def fnExactLossAtWrong : ChangeSpec := { name := "fnExactLossAt", fn := fun _ => fun
  | [d1, d2, d3, d4] => { results := [.lit (.bool false)], args := [d1, d2, d3, d4] }
  | _ => none }
def FnExactLossAtWrongFalsely : Prop := fnExactLossAtRow.holds Try.pinned (OpenSpec.ofChange fnExactLossAtWrong)

/-- 'laws.FnExactSpeedsInFarm': WHATEVER THE INPUT: true; the input reads as it did. -/
def fnExactSpeedsInFarmSpec : ChangeSpec := { name := "fnExactSpeedsInFarm", fn := fun _ => fun
  | [d1, d2, d3] => { results := [.lit (.bool true)], args := [d1, d2, d3] }
  | _ => none }
def fnExactSpeedsInFarmRow : OpenClaim := { program := "ytnmklggeoepnlaa", sum := "7b8490f7ad8eac556dbe37559e4ef124a27f7db87bd346afe7b17a2ed4914beb", func := "loop.example/g01256/laws.FnExactSpeedsInFarm", spec := "fnExactSpeedsInFarm", inPlace := ["math.Float64frombits", "math.sqrt", "math.Float64bits"], unfollowed := true, recurses := true, apart := false }
def FnExactSpeedsInFarmSaid : Prop := fnExactSpeedsInFarmRow.holds Try.pinned (OpenSpec.ofChange fnExactSpeedsInFarmSpec)

/-- ITS FALSE NEIGHBOUR: 'it returns false'. Refute it at one input. -/
def fnExactSpeedsInFarmWrong : ChangeSpec := { name := "fnExactSpeedsInFarm", fn := fun _ => fun
  | [d1, d2, d3] => { results := [.lit (.bool false)], args := [d1, d2, d3] }
  | _ => none }
def FnExactSpeedsInFarmWrongFalsely : Prop := fnExactSpeedsInFarmRow.holds Try.pinned (OpenSpec.ofChange fnExactSpeedsInFarmWrong)

/-- 'laws.FnExactPowerInFarm': WHATEVER THE INPUT: true; the input reads as it did. -/
def fnExactPowerInFarmSpec : ChangeSpec := { name := "fnExactPowerInFarm", fn := fun _ => fun
  | [d1, d2, d3, d4] => { results := [.lit (.bool true)], args := [d1, d2, d3, d4] }
  | _ => none }
def fnExactPowerInFarmRow : OpenClaim := { program := "ytnmklggeoepnlaa", sum := "7b8490f7ad8eac556dbe37559e4ef124a27f7db87bd346afe7b17a2ed4914beb", func := "loop.example/g01256/laws.FnExactPowerInFarm", spec := "fnExactPowerInFarm", inPlace := ["math.Float64frombits", "math.sqrt", "math.Float64bits"], unfollowed := true, recurses := true, apart := false }
def FnExactPowerInFarmSaid : Prop := fnExactPowerInFarmRow.holds Try.pinned (OpenSpec.ofChange fnExactPowerInFarmSpec)

/-- ITS FALSE NEIGHBOUR: 'it returns false'. Refute it at one input. -/
def fnExactPowerInFarmWrong : ChangeSpec := { name := "fnExactPowerInFarm", fn := fun _ => fun
  | [d1, d2, d3, d4] => { results := [.lit (.bool false)], args := [d1, d2, d3, d4] }
  | _ => none }
def FnExactPowerInFarmWrongFalsely : Prop := fnExactPowerInFarmRow.holds Try.pinned (OpenSpec.ofChange fnExactPowerInFarmWrong)

/-- 'laws.FnExactNearestPlaces': WHATEVER THE INPUT: true; the input reads as it did. -/
def fnExactNearestPlacesSpec : ChangeSpec := { name := "fnExactNearestPlaces", fn := fun _ => fun
  | [d] => { results := [.lit (.bool true)], args := [d] }
  | _ => none }
def fnExactNearestPlacesRow : OpenClaim := { program := "ytnmklggeoepnlaa", sum := "7b8490f7ad8eac556dbe37559e4ef124a27f7db87bd346afe7b17a2ed4914beb", func := "loop.example/g01256/laws.FnExactNearestPlaces", spec := "fnExactNearestPlaces", inPlace := ["math.sqrt", "math.Float64bits", "math.Float64frombits"], unfollowed := true, recurses := true, apart := false }
def FnExactNearestPlacesSaid : Prop := fnExactNearestPlacesRow.holds Try.pinned (OpenSpec.ofChange fnExactNearestPlacesSpec)

/-- ITS FALSE NEIGHBOUR: 'it returns false'. Refute it at one input. -/
def fnExactNearestPlacesWrong : ChangeSpec := { name := "fnExactNearestPlaces", fn := fun _ => fun
  | [d] => { results := [.lit (.bool false)], args := [d] }
  | _ => none }
def FnExactNearestPlacesWrongFalsely : Prop := fnExactNearestPlacesRow.holds Try.pinned (OpenSpec.ofChange fnExactNearestPlacesWrong)

/-- 'laws.FnExactFarmPower': WHATEVER THE INPUT: true; the input reads as it did. -/
def fnExactFarmPowerSpec : ChangeSpec := { name := "fnExactFarmPower", fn := fun _ => fun
  | [d1, d2, d3] => { results := [.lit (.bool true)], args := [d1, d2, d3] }
  | _ => none }
def fnExactFarmPowerRow : OpenClaim := { program := "ytnmklggeoepnlaa", sum := "7b8490f7ad8eac556dbe37559e4ef124a27f7db87bd346afe7b17a2ed4914beb", func := "loop.example/g01256/laws.FnExactFarmPower", spec := "fnExactFarmPower", inPlace := ["math.Float64frombits", "math.sqrt", "math.Float64bits"], unfollowed := true, recurses := true, apart := false }
def FnExactFarmPowerSaid : Prop := fnExactFarmPowerRow.holds Try.pinned (OpenSpec.ofChange fnExactFarmPowerSpec)

/-- ITS FALSE NEIGHBOUR: 'it returns false'. Refute it at one input. -/
def fnExactFarmPowerWrong : ChangeSpec := { name := "fnExactFarmPower", fn := fun _ => fun
  | [d1, d2, d3] => { results := [.lit (.bool false)], args := [d1, d2, d3] }
  | _ => none }
def FnExactFarmPowerWrongFalsely : Prop := fnExactFarmPowerRow.holds Try.pinned (OpenSpec.ofChange fnExactFarmPowerWrong)

/-- 'laws.FnExactFarmShare': WHATEVER THE INPUT: true; the input reads as it did. -/
def fnExactFarmShareSpec : ChangeSpec := { name := "fnExactFarmShare", fn := fun _ => fun
  | [d1, d2] => { results := [.lit (.bool true)], args := [d1, d2] }
  | _ => none }
def fnExactFarmShareRow : OpenClaim := { program := "ytnmklggeoepnlaa", sum := "7b8490f7ad8eac556dbe37559e4ef124a27f7db87bd346afe7b17a2ed4914beb", func := "loop.example/g01256/laws.FnExactFarmShare", spec := "fnExactFarmShare", inPlace := ["math.Float64frombits", "math.sqrt", "math.Float64bits"], unfollowed := true, recurses := true, apart := false }
def FnExactFarmShareSaid : Prop := fnExactFarmShareRow.holds Try.pinned (OpenSpec.ofChange fnExactFarmShareSpec)

/-- ITS FALSE NEIGHBOUR: 'it returns false'. Refute it at one input. -/
def fnExactFarmShareWrong : ChangeSpec := { name := "fnExactFarmShare", fn := fun _ => fun
  | [d1, d2] => { results := [.lit (.bool false)], args := [d1, d2] }
  | _ => none }
def FnExactFarmShareWrongFalsely : Prop := fnExactFarmShareRow.holds Try.pinned (OpenSpec.ofChange fnExactFarmShareWrong)

/- THE SECOND FORM. 'bulk': how many values and letters a reading holds, each counted each time it is reached (what is shared counts as often as it is met; a slice's spare places count too). A statement '..UptoSaid' is the law's where the arguments, and the package variables that the reading takes, are together of bulk at most 1048576: NARROWER than '..Said'. Prove '..Said' where nothing that the law and all that it calls make is longer than what came in: it says more and counts as full. Else prove '..UptoSaid'. A law counts once. -/
mutual
def uptoBulk {H : Type} : DataW H → Nat
  | .lit (.string bytes) => bytes.length + 1
  | .lit _ => 1
  | .nil => 1
  | .ptr d => uptoBulk d + 1
  | .slice elems spare => uptoBulkAll elems + uptoBulkAll spare + 1
  | .agg parts => uptoBulkAll parts + 1
  | .iface _ d => uptoBulk d + 1
  | .map entries => uptoBulkEntries entries + 1
  | .held _ => 1
def uptoBulkAll {H : Type} : List (DataW H) → Nat
  | [] => 0
  | d :: r => uptoBulk d + uptoBulkAll r
def uptoBulkEntries {H : Type} : List (Lit × DataW H) → Nat
  | [] => 0
  | x :: r => uptoBulkEntry x + uptoBulkEntries r
def uptoBulkEntry {H : Type} : Lit × DataW H → Nat
  | (.string bytes, d) => bytes.length + uptoBulk d + 1
  | (_, d) => uptoBulk d + 1
 end
def uptoSmall : (H : Type) → List (DataW H) → Bool := fun _ ds => decide (uptoBulkAll ds ≤ 1048576)
def OpenSpec.upto (s : _root_.Go.ChangeSpec) : _root_.Go.OpenSpec := { _root_.Go.OpenSpec.ofChange s with cond := some uptoSmall }

/-- 'laws.FnExactValidFarm', WHERE WHAT IT READS IS OF BULK AT MOST 1048576: true; the input reads as it did. -/
def fnExactValidFarmUptoRow : OpenClaim := { program := "ytnmklggeoepnlaa", sum := "7b8490f7ad8eac556dbe37559e4ef124a27f7db87bd346afe7b17a2ed4914beb", func := "loop.example/g01256/laws.FnExactValidFarm", spec := "fnExactValidFarm", inPlace := ["math.Float64bits", "math.Float64frombits"], unfollowed := true, recurses := true, apart := false, narrowed := true }
def FnExactValidFarmUptoSaid : Prop := fnExactValidFarmUptoRow.holds Try.pinned (OpenSpec.upto fnExactValidFarmSpec)

/-- 'laws.FnExactSameFarm', WHERE WHAT IT READS IS OF BULK AT MOST 1048576: true; the input reads as it did. -/
def fnExactSameFarmUptoRow : OpenClaim := { program := "ytnmklggeoepnlaa", sum := "7b8490f7ad8eac556dbe37559e4ef124a27f7db87bd346afe7b17a2ed4914beb", func := "loop.example/g01256/laws.FnExactSameFarm", spec := "fnExactSameFarm", inPlace := ["math.Float32bits"], unfollowed := true, recurses := true, apart := false, narrowed := true }
def FnExactSameFarmUptoSaid : Prop := fnExactSameFarmUptoRow.holds Try.pinned (OpenSpec.upto fnExactSameFarmSpec)

/-- 'laws.FnExactValidBoat', WHERE WHAT IT READS IS OF BULK AT MOST 1048576: true; the input reads as it did. -/
def fnExactValidBoatUptoRow : OpenClaim := { program := "ytnmklggeoepnlaa", sum := "7b8490f7ad8eac556dbe37559e4ef124a27f7db87bd346afe7b17a2ed4914beb", func := "loop.example/g01256/laws.FnExactValidBoat", spec := "fnExactValidBoat", inPlace := ["math.Float64bits", "math.Float64frombits"], apart := false, narrowed := true }
def FnExactValidBoatUptoSaid : Prop := fnExactValidBoatUptoRow.holds Try.pinned (OpenSpec.upto fnExactValidBoatSpec)

/-- 'laws.FnExactRowFarm', WHERE WHAT IT READS IS OF BULK AT MOST 1048576: true; the input reads as it did. -/
def fnExactRowFarmUptoRow : OpenClaim := { program := "ytnmklggeoepnlaa", sum := "7b8490f7ad8eac556dbe37559e4ef124a27f7db87bd346afe7b17a2ed4914beb", func := "loop.example/g01256/laws.FnExactRowFarm", spec := "fnExactRowFarm", inPlace := ["math.Float64bits", "math.Float64frombits"], unfollowed := true, recurses := true, apart := false, narrowed := true }
def FnExactRowFarmUptoSaid : Prop := fnExactRowFarmUptoRow.holds Try.pinned (OpenSpec.upto fnExactRowFarmSpec)

/-- 'laws.FnExactAddPlace', WHERE WHAT IT READS IS OF BULK AT MOST 1048576: true; the input reads as it did. -/
def fnExactAddPlaceUptoRow : OpenClaim := { program := "ytnmklggeoepnlaa", sum := "7b8490f7ad8eac556dbe37559e4ef124a27f7db87bd346afe7b17a2ed4914beb", func := "loop.example/g01256/laws.FnExactAddPlace", spec := "fnExactAddPlace", inPlace := ["math.Float64bits", "math.Float64frombits"], unfollowed := true, recurses := true, apart := false, narrowed := true }
def FnExactAddPlaceUptoSaid : Prop := fnExactAddPlaceUptoRow.holds Try.pinned (OpenSpec.upto fnExactAddPlaceSpec)

/-- 'laws.FnExactMovePlace', WHERE WHAT IT READS IS OF BULK AT MOST 1048576: true; the input reads as it did. -/
def fnExactMovePlaceUptoRow : OpenClaim := { program := "ytnmklggeoepnlaa", sum := "7b8490f7ad8eac556dbe37559e4ef124a27f7db87bd346afe7b17a2ed4914beb", func := "loop.example/g01256/laws.FnExactMovePlace", spec := "fnExactMovePlace", inPlace := ["math.Float64bits", "math.Float64frombits"], unfollowed := true, recurses := true, apart := false, narrowed := true }
def FnExactMovePlaceUptoSaid : Prop := fnExactMovePlaceUptoRow.holds Try.pinned (OpenSpec.upto fnExactMovePlaceSpec)

/-- 'laws.FnExactDropPlace', WHERE WHAT IT READS IS OF BULK AT MOST 1048576: true; the input reads as it did. -/
def fnExactDropPlaceUptoRow : OpenClaim := { program := "ytnmklggeoepnlaa", sum := "7b8490f7ad8eac556dbe37559e4ef124a27f7db87bd346afe7b17a2ed4914beb", func := "loop.example/g01256/laws.FnExactDropPlace", spec := "fnExactDropPlace", inPlace := ["math.Float64bits", "math.Float64frombits"], unfollowed := true, recurses := true, apart := false, narrowed := true }
def FnExactDropPlaceUptoSaid : Prop := fnExactDropPlaceUptoRow.holds Try.pinned (OpenSpec.upto fnExactDropPlaceSpec)

/-- 'laws.FnExactWakeAt', WHERE WHAT IT READS IS OF BULK AT MOST 1048576: true; the input reads as it did. -/
def fnExactWakeAtUptoRow : OpenClaim := { program := "ytnmklggeoepnlaa", sum := "7b8490f7ad8eac556dbe37559e4ef124a27f7db87bd346afe7b17a2ed4914beb", func := "loop.example/g01256/laws.FnExactWakeAt", spec := "fnExactWakeAt", inPlace := ["math.Float64frombits", "math.Float64bits"], unfollowed := true, recurses := true, apart := false, narrowed := true }
def FnExactWakeAtUptoSaid : Prop := fnExactWakeAtUptoRow.holds Try.pinned (OpenSpec.upto fnExactWakeAtSpec)

/-- 'laws.FnExactLossAt', WHERE WHAT IT READS IS OF BULK AT MOST 1048576: true; the input reads as it did. -/
def fnExactLossAtUptoRow : OpenClaim := { program := "ytnmklggeoepnlaa", sum := "7b8490f7ad8eac556dbe37559e4ef124a27f7db87bd346afe7b17a2ed4914beb", func := "loop.example/g01256/laws.FnExactLossAt", spec := "fnExactLossAt", inPlace := ["math.Float64frombits", "math.sqrt", "math.Float64bits"], unfollowed := true, recurses := true, apart := false, narrowed := true }
def FnExactLossAtUptoSaid : Prop := fnExactLossAtUptoRow.holds Try.pinned (OpenSpec.upto fnExactLossAtSpec)

/-- 'laws.FnExactSpeedsInFarm', WHERE WHAT IT READS IS OF BULK AT MOST 1048576: true; the input reads as it did. -/
def fnExactSpeedsInFarmUptoRow : OpenClaim := { program := "ytnmklggeoepnlaa", sum := "7b8490f7ad8eac556dbe37559e4ef124a27f7db87bd346afe7b17a2ed4914beb", func := "loop.example/g01256/laws.FnExactSpeedsInFarm", spec := "fnExactSpeedsInFarm", inPlace := ["math.Float64frombits", "math.sqrt", "math.Float64bits"], unfollowed := true, recurses := true, apart := false, narrowed := true }
def FnExactSpeedsInFarmUptoSaid : Prop := fnExactSpeedsInFarmUptoRow.holds Try.pinned (OpenSpec.upto fnExactSpeedsInFarmSpec)

/-- 'laws.FnExactPowerInFarm', WHERE WHAT IT READS IS OF BULK AT MOST 1048576: true; the input reads as it did. -/
def fnExactPowerInFarmUptoRow : OpenClaim := { program := "ytnmklggeoepnlaa", sum := "7b8490f7ad8eac556dbe37559e4ef124a27f7db87bd346afe7b17a2ed4914beb", func := "loop.example/g01256/laws.FnExactPowerInFarm", spec := "fnExactPowerInFarm", inPlace := ["math.Float64frombits", "math.sqrt", "math.Float64bits"], unfollowed := true, recurses := true, apart := false, narrowed := true }
def FnExactPowerInFarmUptoSaid : Prop := fnExactPowerInFarmUptoRow.holds Try.pinned (OpenSpec.upto fnExactPowerInFarmSpec)

/-- 'laws.FnExactNearestPlaces', WHERE WHAT IT READS IS OF BULK AT MOST 1048576: true; the input reads as it did. -/
def fnExactNearestPlacesUptoRow : OpenClaim := { program := "ytnmklggeoepnlaa", sum := "7b8490f7ad8eac556dbe37559e4ef124a27f7db87bd346afe7b17a2ed4914beb", func := "loop.example/g01256/laws.FnExactNearestPlaces", spec := "fnExactNearestPlaces", inPlace := ["math.sqrt", "math.Float64bits", "math.Float64frombits"], unfollowed := true, recurses := true, apart := false, narrowed := true }
def FnExactNearestPlacesUptoSaid : Prop := fnExactNearestPlacesUptoRow.holds Try.pinned (OpenSpec.upto fnExactNearestPlacesSpec)

/-- 'laws.FnExactFarmPower', WHERE WHAT IT READS IS OF BULK AT MOST 1048576: true; the input reads as it did. -/
def fnExactFarmPowerUptoRow : OpenClaim := { program := "ytnmklggeoepnlaa", sum := "7b8490f7ad8eac556dbe37559e4ef124a27f7db87bd346afe7b17a2ed4914beb", func := "loop.example/g01256/laws.FnExactFarmPower", spec := "fnExactFarmPower", inPlace := ["math.Float64frombits", "math.sqrt", "math.Float64bits"], unfollowed := true, recurses := true, apart := false, narrowed := true }
def FnExactFarmPowerUptoSaid : Prop := fnExactFarmPowerUptoRow.holds Try.pinned (OpenSpec.upto fnExactFarmPowerSpec)

/-- 'laws.FnExactFarmShare', WHERE WHAT IT READS IS OF BULK AT MOST 1048576: true; the input reads as it did. -/
def fnExactFarmShareUptoRow : OpenClaim := { program := "ytnmklggeoepnlaa", sum := "7b8490f7ad8eac556dbe37559e4ef124a27f7db87bd346afe7b17a2ed4914beb", func := "loop.example/g01256/laws.FnExactFarmShare", spec := "fnExactFarmShare", inPlace := ["math.Float64frombits", "math.sqrt", "math.Float64bits"], unfollowed := true, recurses := true, apart := false, narrowed := true }
def FnExactFarmShareUptoSaid : Prop := fnExactFarmShareUptoRow.holds Try.pinned (OpenSpec.upto fnExactFarmShareSpec)

end Rows
end Go.Proofs.Ytnmklggeoepnlaa
