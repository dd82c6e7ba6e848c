/- Air: what is valid, how fast and how dense it is at a height. No statement is proved here. -/
import Derived.Test.YtknabmknboffgaaDoorArea
import Derived.Test.YtknabmknboffgaaDoorPos
import Derived.Test.YtknabmknboffgaaDoorInv
namespace Go.Proofs.YtknabmknboffgaaDoor
open Go Go.RowKit
theorem BlkL.two {w : World} {B : Nat} {v0 v1 : Value} (h : BlkL w B [v0, v1]) : w.cell? ⟨B, 0, none⟩ = some v0 ∧ w.cell? ⟨B, 1, none⟩ = some v1 := ⟨(h.2 0 _ rfl).1, (h.2 1 _ rfl).1⟩
theorem BlkL.four {w : World} {B : Nat} {v0 v1 v2 v3 : Value} (h : BlkL w B [v0, v1, v2, v3]) : w.cell? ⟨B, 0, none⟩ = some v0 ∧ w.cell? ⟨B, 1, none⟩ = some v1 ∧ w.cell? ⟨B, 2, none⟩ = some v2 ∧ w.cell? ⟨B, 3, none⟩ = some v3 :=
  ⟨(h.2 0 _ rfl).1, (h.2 1 _ rfl).1, (h.2 2 _ rfl).1, (h.2 3 _ rfl).1⟩
theorem canonF {op : BinOp} {k : FloatKind} {x y X Y : Nat} {w : World} (hx : canon k x = X) (hy : canon k y = Y) : canon k (fopV op k x y w) = fop op k X Y := by rw [canon_fopV, hx, hy]
/-- valid air -/
def airV (d h s k : Nat) : Bool := posi d && (posi h && (amount s && within k 0 1065353216))
/-- how fast it is at a height -/
def spdV (h s k z : Nat) : Nat := fop .mul .f32 (canon .f32 s) (fop .add .f32 (canon .f32 1065353216) (fop .mul .f32 (canon .f32 k) (fop .quo .f32 (fop .sub .f32 (canon .f32 z) (canon .f32 h)) (fop .add .f32 (canon .f32 z) (canon .f32 h)))))
def denV (d z : Nat) : Nat := fop .quo .f32 (canon .f32 d) (fop .add .f32 (canon .f32 1065353216) (fop .quo .f32 (canon .f32 z) (canon .f32 1174720512)))
def powV (d s : Nat) : Nat := fop .mul .f32 (fop .mul .f32 (fop .mul .f32 (fop .mul .f32 (canon .f32 1056964608) (canon .f32 d)) (canon .f32 s)) (canon .f32 s)) (canon .f32 s)
end Go.Proofs.YtknabmknboffgaaDoor
