/- A list of numbers, each told by its index. No statement is proved here. -/
import Derived.Test.YtpmjikchlofebaaVal
import Derived.Test.YtpmjikchlofebaaSums
import Derived.Test.YtpmjikchlofebaaInv
namespace Go.Proofs.Ytpmjikchlofebaa
open Go Go.RowKit
theorem canonS {op : BinOp} {k : FloatKind} {x y X Y : Nat} {w : World} (hx : canon k x = X) (hy : canon k y = Y) : canon k (fopV op k x y w) = fop op k X Y := by rw [canon_fopV, hx, hy]
theorem FlNew.below {w wr wr' : World} {B n k : Nat} {xs : List Nat} (h : FlNew w wr B n k xs) (hb : Below wr.heap.size wr wr') : FlNew w wr' B n k xs :=
  ⟨below_of h.1 h.1.size hb, h.2.1, Nat.lt_of_lt_of_le h.2.2.1 hb.size, fun j hj => ⟨by rw [hb.cell (p := ⟨B, j, none⟩) h.2.2.1]; exact (h.2.2.2 j hj).1, by rw [hb.frozen (p := ⟨B, j, none⟩) h.2.2.1]; exact (h.2.2.2 j hj).2⟩⟩
theorem FlNew.congr {w wr : World} {B n k : Nat} {xs ys : List Nat} (h : FlNew w wr B n k xs) (he : ∀ j, j < k → xs.getD j 0 = ys.getD j 0) : FlNew w wr B n k ys := by
  refine ⟨h.1, h.2.1, h.2.2.1, fun j hj => ⟨?_, (h.2.2.2 j hj).2⟩⟩
  rw [(h.2.2.2 j hj).1]
  by_cases hjk : j < k
  · rw [if_pos hjk, if_pos hjk, he j hjk]
  · rw [if_neg hjk, if_neg hjk]
theorem getD_lset {xs : List Nat} {k r j : Nat} (hk : k < xs.length) : (xs.set k r).getD j 0 = if k = j then r else xs.getD j 0 := by
  rw [List.getD_eq_getElem?_getD, List.getD_eq_getElem?_getD, List.getElem?_set]
  split
  · rename_i h; subst h; rfl
  · rfl
end Go.Proofs.Ytpmjikchlofebaa
