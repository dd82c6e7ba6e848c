/- Where a rotor is, and where a wind goes to: the program's side. No statement is proved here. -/
import Derived.Test.YtiiiigldpbomkaaFrmV
import Derived.Test.YtiiiigldpbomkaaSinW
import Derived.RegionTactic
import Derived.BigRegion
namespace Go.Proofs.Ytiiiigldpbomkaa
open Go Go.RowKit
/-- the sines of a turn -/
def cosT (t : Nat) : Nat := canon .f32 (sinT (fop .add .f32 (canon .f32 t) (canon .f32 1048576000)))
def sinC (t : Nat) : Nat := canon .f32 (sinT (canon .f32 t))
end Go.Proofs.Ytiiiigldpbomkaa
