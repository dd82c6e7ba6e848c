/- Lists of whole numbers that grow by append. No statement is proved here. -/
import Derived.Test.YtoadccmkcjnjmaaDoorApp
import Derived.Test.YtoadccmkcjnjmaaDoorMarkI
namespace Go.Proofs.YtoadccmkcjnjmaaDoor
open Go Go.RowKit
/-- a list of numbers of the call's own, that may grow -/
def GrI (w : World) (B0 : Nat) (v : Value) (xs : List Int) : Prop := w.ownsRow B0 2 1 v xs.length (xs.map (Value.int .i64))
theorem i64_info : (Tryd.prog.info? 2).map (fun i => (i.zero, i.size, i.bytes)) = some (some (.int .i64 0), 1, 8) := by kernel_rfl
theorem GrI.nil (w : World) (B0 : Nat) : GrI w B0 (.slice none 0 0) [] := World.ownsRow_nil _ _ _ _
theorem GrI.made (w : World) (B0 cap : Nat) (cur : Array Value) (hb : B0 ≤ w.heap.size) (hm : cap ≤ maxLen) (hs : cur.size = cap) : GrI (w.alloc (.cells cur 2)) B0 (.slice (some ⟨w.heap.size, 0, none⟩) 0 cap) [] :=
  World.ownsRow_made w cur cap hb hm (by rw [hs, Nat.mul_one])
theorem GrI.next {w0 wr w1 : World} {B0 : Nat} {x : Int} {v v' : Value} {xs : List Int} {o : Obj} (h : GrI wr B0 v xs) (hb : Below w0.heap.size w0 wr) (hB : w0.heap.size ≤ B0)
    (ho : w1.ownsRow B0 2 1 v' (xs.length + 1) (xs.map (Value.int .i64) ++ [.int .i64 x])) (hg : (wr.alloc o).grownBy w1 v.ownBlock) : GrI w1 B0 v' (xs ++ [x]) ∧ Below w0.heap.size w0 w1 := by
  refine ⟨by unfold GrI; simpa using ho, ?_⟩
  have hlt := World.ownsRow.lt h
  exact (hb.alloc hb.size o).grown hg (by have := hb.size; simp; omega) (fun k hk => by have := (hlt k hk).1; omega)
theorem GrI.of_ownsRow {w : World} {B0 : Nat} {v : Value} {xs : List Int} (h : GrI w B0 v xs) : w.ownsRow B0 2 1 v xs.length (xs.map (Value.int .i64)) := h
theorem GrI.below {w w' : World} {B0 : Nat} {v : Value} {xs : List Int} (h : GrI w B0 v xs) (hb : Below w.heap.size w w') : GrI w' B0 v xs := by
  refine ⟨h.1, ?_⟩
  rcases h.2 with hn | ⟨g, cap, cur, rfl, hbg, hgg, rest⟩
  · exact .inl hn
  · refine .inr ⟨g, cap, cur, rfl, hbg, ?_, rest⟩
    rw [hb.block g (Array.getElem?_eq_some_iff.1 hgg).1]
    exact hgg
theorem GrI.draws {w : World} {B0 : Nat} {v : Value} {xs : List Int} (h : GrI w B0 v xs) (n : Nat) : GrI (w.drewN n) B0 v xs := h
/-- what such a list is -/
theorem GrI.own {w : World} {B0 : Nat} {v : Value} {xs : List Int} (h : GrI w B0 v xs) : ∃ A cap b, v = .slice A xs.length cap ∧ OwnOI w B0 A b xs := by
  rcases h.2 with ⟨rfl, h0⟩ | ⟨g, cap, cur, rfl, hbg, hgg, hnc, hcm, hcs, htake⟩
  · refine ⟨none, 0, 0, by rw [h0], .inl (List.eq_nil_of_length_eq_zero h0)⟩
  · refine ⟨_, cap, g, rfl, .inr ⟨rfl, hbg, (Array.getElem?_eq_some_iff.1 hgg).1, fun j hj => ⟨?_, ?_⟩⟩⟩
    · rw [cell_of_row w g j cur 2 (0, 0) hgg]
      have h1 : cur.toList[j]? = some (Value.int .i64 (xs.getD j 0)) := by
        have h2 : (cur.toList.take (xs.length * 1))[j]? = (xs.map (Value.int .i64))[j]? := by rw [htake]
        rw [List.getElem?_take, if_pos (by omega)] at h2
        rw [h2]
        simp [List.getD, hj]
      simpa using h1
    · simp [World.frozen?, hgg]
end Go.Proofs.YtoadccmkcjnjmaaDoor
