/- ScaleRotor: the words. No statement is proved here. -/
import Derived.Test.YtiiiigldpbomkaaTwM
namespace Go.Proofs.Ytiiiigldpbomkaa
open Go Go.RowKit
def scO (a l d s : List Nat) (n : Nat) (c : Int) (hub tip u : Nat) : Bool := stO a l d s n c hub tip true (mp3 (scG u) s) (fop .mul .f32 (canon .f32 u) (canon .f32 hub)) (fop .mul .f32 (canon .f32 u) (canon .f32 tip))
theorem scO_v {a l d s : List Nat} {n hub tip u : Nat} {c : Int} (h : validR a l d s n c hub tip = false) : scO a l d s n c hub tip u = false := stO_v h
theorem scO_y {a l d s : List Nat} {n hub tip u : Nat} {c : Int} (h : validR a l d s n c hub tip = true) : scO a l d s n c hub tip u = validR a l d (mp3 (scG u) s) n c (fop .mul .f32 (canon .f32 u) (canon .f32 hub)) (fop .mul .f32 (canon .f32 u) (canon .f32 tip)) := stO_y h rfl
end Go.Proofs.Ytiiiigldpbomkaa
