/- Air: what is the same, and its speeds, densities and powers: both sides. No statement is proved here. -/
import Derived.Test.YtpjgmfkjpkeohaaDoorAir
import Derived.Test.YtpjgmfkjpkeohaaDoorInv3
namespace Go.Proofs.YtpjgmfkjpkeohaaDoor
open Go Go.RowKit
def sameN (x y : Nat) : Bool := decide (canon .f32 x = canon .f32 y)
def airS (d h s k d' h' s' k' : Nat) : Bool := sameN d d' && (sameN h h' && (sameN s s' && sameN k k'))
def spdQ (h s k z : Nat) : Nat := if amount z then onlyN (spdV h s k z) else 0
def spdO (d h s k z : Nat) : Bool := airV d h s k && (amount z && fin .f32 (spdV h s k z))
def spdR (d h s k z : Nat) : Nat := if airV d h s k && amount z then onlyN (spdV h s k z) else 0
def denO (d h s k z : Nat) : Bool := airV d h s k && (amount z && fin .f32 (denV d z))
def denR (d h s k z : Nat) : Nat := if airV d h s k && amount z then onlyN (denV d z) else 0
def powO (d s : Nat) : Bool := amount d && (amount s && fin .f32 (powV d s))
def powR (d s : Nat) : Nat := if amount d && amount s then onlyN (powV d s) else 0
end Go.Proofs.YtpjgmfkjpkeohaaDoor
