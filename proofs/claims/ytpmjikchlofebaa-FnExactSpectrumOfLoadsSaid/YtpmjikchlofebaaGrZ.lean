/- Lists of complex64 that grow by append. No statement is proved here. -/
import Derived.Test.YtpmjikchlofebaaApp
import Derived.Test.YtpmjikchlofebaaMkZ
namespace Go.Proofs.Ytpmjikchlofebaa
open Go Go.RowKit
/-- a list of numbers of the call's own, that may grow -/
def GrZ (w : World) (B0 : Nat) (v : Value) (xs : List (Nat × Nat)) : Prop := w.ownsRow B0 126 1 v xs.length (xs.map cxV)
theorem c64_info : (Try.prog.info? 126).map (fun i => (i.zero, i.size, i.bytes)) = some (some (.complex .f32 0 0), 1, 8) := by kernel_rfl
theorem GrZ.nil (w : World) (B0 : Nat) : GrZ w B0 (.slice none 0 0) [] := World.ownsRow_nil _ _ _ _
theorem GrZ.made (w : World) (B0 cap : Nat) (cur : Array Value) (hb : B0 ≤ w.heap.size) (hm : cap ≤ maxLen) (hs : cur.size = cap) : GrZ (w.alloc (.cells cur 126)) B0 (.slice (some ⟨w.heap.size, 0, none⟩) 0 cap) [] :=
  World.ownsRow_made w cur cap hb hm (by rw [hs, Nat.mul_one])
theorem GrZ.next {w0 wr w1 : World} {B0 : Nat} {x : Nat × Nat} {v v' : Value} {xs : List (Nat × Nat)} {o : Obj} (h : GrZ wr B0 v xs) (hb : Below w0.heap.size w0 wr) (hB : w0.heap.size ≤ B0)
    (ho : w1.ownsRow B0 126 1 v' (xs.length + 1) (xs.map cxV ++ [cxV x])) (hg : (wr.alloc o).grownBy w1 v.ownBlock) : GrZ w1 B0 v' (xs ++ [x]) ∧ Below w0.heap.size w0 w1 := by
  refine ⟨by unfold GrZ; simpa using ho, ?_⟩
  have hlt := World.ownsRow.lt h
  exact (hb.alloc hb.size o).grown hg (by have := hb.size; simp; omega) (fun k hk => by have := (hlt k hk).1; omega)
theorem GrZ.of_ownsRow {w : World} {B0 : Nat} {v : Value} {xs : List (Nat × Nat)} (h : GrZ w B0 v xs) : w.ownsRow B0 126 1 v xs.length (xs.map cxV) := h
theorem GrZ.below {w w' : World} {B0 : Nat} {v : Value} {xs : List (Nat × Nat)} (h : GrZ w B0 v xs) (hb : Below w.heap.size w w') : GrZ w' B0 v xs := by
  refine ⟨h.1, ?_⟩
  rcases h.2 with hn | ⟨g, cap, cur, rfl, hbg, hgg, rest⟩
  · exact .inl hn
  · refine .inr ⟨g, cap, cur, rfl, hbg, ?_, rest⟩
    rw [hb.block g (Array.getElem?_eq_some_iff.1 hgg).1]
    exact hgg
theorem GrZ.draws {w : World} {B0 : Nat} {v : Value} {xs : List (Nat × Nat)} (h : GrZ w B0 v xs) (n : Nat) : GrZ (w.drewN n) B0 v xs := h
/-- what such a list is -/
theorem GrZ.own {w : World} {B0 : Nat} {v : Value} {xs : List (Nat × Nat)} (h : GrZ w B0 v xs) : ∃ A cap b, v = .slice A xs.length cap ∧ OwnOZ w B0 A b xs := by
  rcases h.2 with ⟨rfl, h0⟩ | ⟨g, cap, cur, rfl, hbg, hgg, hnc, hcm, hcs, htake⟩
  · refine ⟨none, 0, 0, by rw [h0], .inl (List.eq_nil_of_length_eq_zero h0)⟩
  · refine ⟨_, cap, g, rfl, .inr ⟨rfl, hbg, (Array.getElem?_eq_some_iff.1 hgg).1, fun j hj => ⟨?_, ?_⟩⟩⟩
    · rw [cell_of_row w g j cur 126 (0, 0) hgg]
      have h1 : cur.toList[j]? = some (cxV (xs.getD j (0, 0))) := by
        have h2 : (cur.toList.take (xs.length * 1))[j]? = (xs.map cxV)[j]? := by rw [htake]
        rw [List.getElem?_take, if_pos (by omega)] at h2
        rw [h2]
        simp [List.getD, hj]
      simpa using h1
    · simp [World.frozen?, hgg]
end Go.Proofs.Ytpmjikchlofebaa
