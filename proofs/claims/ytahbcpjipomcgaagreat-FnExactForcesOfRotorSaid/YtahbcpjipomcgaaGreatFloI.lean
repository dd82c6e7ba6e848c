/- FlowAt: the program's side. No statement is proved here. -/
import Derived.Test.YtahbcpjipomcgaaGreatFlo
namespace Go.Proofs.YtahbcpjipomcgaaGreat
open Go Go.RowKit
def floC (a l d s : List Nat) (n : Nat) (c : Int) (hub tip : Nat) (i : Int) (wi sp p : Nat) : Bool := statR a l d s n c hub tip i && couB wi sp p
def flSt (a l d s : List Nat) (c : Int) (tip k wi sp p : Nat) : Option (Nat × Nat) := flowS a l d (floatOfInt .f32 c) tip (rad s k) (chd s k) (twi s k) wi sp p 24
def floO (a l d s : List Nat) (n : Nat) (c : Int) (hub tip : Nat) (i : Int) (wi sp p : Nat) : Bool := floC a l d s n c hub tip i wi sp p && (flSt a l d s c tip i.toNat wi sp p).isSome
def floV (a l d s : List Nat) (n : Nat) (c : Int) (hub tip : Nat) (i : Int) (wi sp p : Nat) : Nat := if floC a l d s n c hub tip i wi sp p then flV (flSt a l d s c tip i.toNat wi sp p) else 0
end Go.Proofs.YtahbcpjipomcgaaGreat
