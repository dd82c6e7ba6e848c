/- Lists of bytes and lists of strings that grow by append. No statement is proved here. -/
import Derived.Test.YtknabmknboffgaaDoorApp
namespace Go.Proofs.YtknabmknboffgaaDoor
open Go Go.RowKit
/-- a byte's value -/
abbrev u8v (b : UInt8) : Value := .int .u8 (b.toNat : Int)
/-- a list of numbers of the call's own, that may grow -/
def GrU (w : World) (B0 : Nat) (v : Value) (xs : List UInt8) : Prop := w.ownsRow B0 5 1 v xs.length (xs.map u8v)
theorem u8_info : (Tryd.prog.info? 5).map (fun i => (i.zero, i.size, i.bytes)) = some (some (.int .u8 0), 1, 1) := by kernel_rfl
theorem GrU.nil (w : World) (B0 : Nat) : GrU w B0 (.slice none 0 0) [] := World.ownsRow_nil _ _ _ _
theorem GrU.made (w : World) (B0 cap : Nat) (cur : Array Value) (hb : B0 ≤ w.heap.size) (hm : cap ≤ maxLen) (hs : cur.size = cap) : GrU (w.alloc (.cells cur 5)) B0 (.slice (some ⟨w.heap.size, 0, none⟩) 0 cap) [] :=
  World.ownsRow_made w cur cap hb hm (by rw [hs, Nat.mul_one])
theorem GrU.next {w0 wr w1 : World} {B0 : Nat} {x : UInt8} {v v' : Value} {xs : List UInt8} {o : Obj} (h : GrU wr B0 v xs) (hb : Below w0.heap.size w0 wr) (hB : w0.heap.size ≤ B0)
    (ho : w1.ownsRow B0 5 1 v' (xs.length + 1) (xs.map u8v ++ [u8v x])) (hg : (wr.alloc o).grownBy w1 v.ownBlock) : GrU w1 B0 v' (xs ++ [x]) ∧ Below w0.heap.size w0 w1 := by
  refine ⟨by unfold GrU; simpa using ho, ?_⟩
  have hlt := World.ownsRow.lt h
  exact (hb.alloc hb.size o).grown hg (by have := hb.size; simp; omega) (fun k hk => by have := (hlt k hk).1; omega)
theorem GrU.of_ownsRow {w : World} {B0 : Nat} {v : Value} {xs : List UInt8} (h : GrU w B0 v xs) : w.ownsRow B0 5 1 v xs.length (xs.map u8v) := h
theorem GrU.below {w w' : World} {B0 : Nat} {v : Value} {xs : List UInt8} (h : GrU w B0 v xs) (hb : Below w.heap.size w w') : GrU w' B0 v xs := by
  refine ⟨h.1, ?_⟩
  rcases h.2 with hn | ⟨g, cap, cur, rfl, hbg, hgg, rest⟩
  · exact .inl hn
  · refine .inr ⟨g, cap, cur, rfl, hbg, ?_, rest⟩
    rw [hb.block g (Array.getElem?_eq_some_iff.1 hgg).1]
    exact hgg
theorem GrU.draws {w : World} {B0 : Nat} {v : Value} {xs : List UInt8} (h : GrU w B0 v xs) (n : Nat) : GrU (w.drewN n) B0 v xs := h
/-- the string of such a list -/
theorem GrU.str {w : World} {B0 : Nat} {v : Value} {xs : List UInt8} (h : GrU w B0 v xs) : (convert 39 9 v).run Tryd.prog w = .ok (.string ⟨xs.toArray⟩) w := by
  rcases h.2 with ⟨rfl, h0⟩ | ⟨g, cap, cur, rfl, hbg, hgg, hnc, hcm, hcs, htake⟩
  · obtain rfl := List.eq_nil_of_length_eq_zero h0
    have := run_convert_bytes_string (P := Tryd.prog) w 39 9 5 none 0 0 Tryd.underlying39 Tryd.underlying5 Tryd.underlying9
    rw [this]
    rfl
  · refine run_convert_bytes_back w 39 9 5 ⟨g, 0, none⟩ cap xs Tryd.underlying39 Tryd.underlying5 Tryd.underlying9 (fun j hj => ?_)
    have e1 : (⟨g, 0, none⟩ : Addr).add j = ⟨g, j, none⟩ := by
      unfold Addr.add
      split
      · rename_i h; subst h; rfl
      · simp
    rw [e1, cell_of_row w g j cur 5 (0, 0) hgg]
    have h1 : cur.toList[j]? = some (u8v xs[j]) := by
      have h2 : (cur.toList.take (xs.length * 1))[j]? = (xs.map u8v)[j]? := by rw [htake]
      rw [List.getElem?_take, if_pos (by omega)] at h2
      rw [h2]
      simp [hj]
    simpa using h1
/-- a list of numbers of the call's own, that may grow -/
def GrS (w : World) (B0 : Nat) (v : Value) (xs : List ByteArray) : Prop := w.ownsRow B0 9 1 v xs.length (xs.map Value.string)
theorem str_info : (Tryd.prog.info? 9).map (fun i => (i.zero, i.size, i.bytes)) = some (some (.string ⟨#[]⟩), 1, 16) := by kernel_rfl
theorem GrS.nil (w : World) (B0 : Nat) : GrS w B0 (.slice none 0 0) [] := World.ownsRow_nil _ _ _ _
theorem GrS.made (w : World) (B0 cap : Nat) (cur : Array Value) (hb : B0 ≤ w.heap.size) (hm : cap ≤ maxLen) (hs : cur.size = cap) : GrS (w.alloc (.cells cur 9)) B0 (.slice (some ⟨w.heap.size, 0, none⟩) 0 cap) [] :=
  World.ownsRow_made w cur cap hb hm (by rw [hs, Nat.mul_one])
theorem GrS.next {w0 wr w1 : World} {B0 : Nat} {x : ByteArray} {v v' : Value} {xs : List ByteArray} {o : Obj} (h : GrS wr B0 v xs) (hb : Below w0.heap.size w0 wr) (hB : w0.heap.size ≤ B0)
    (ho : w1.ownsRow B0 9 1 v' (xs.length + 1) (xs.map Value.string ++ [Value.string x])) (hg : (wr.alloc o).grownBy w1 v.ownBlock) : GrS w1 B0 v' (xs ++ [x]) ∧ Below w0.heap.size w0 w1 := by
  refine ⟨by unfold GrS; simpa using ho, ?_⟩
  have hlt := World.ownsRow.lt h
  exact (hb.alloc hb.size o).grown hg (by have := hb.size; simp; omega) (fun k hk => by have := (hlt k hk).1; omega)
theorem GrS.of_ownsRow {w : World} {B0 : Nat} {v : Value} {xs : List ByteArray} (h : GrS w B0 v xs) : w.ownsRow B0 9 1 v xs.length (xs.map Value.string) := h
theorem GrS.below {w w' : World} {B0 : Nat} {v : Value} {xs : List ByteArray} (h : GrS w B0 v xs) (hb : Below w.heap.size w w') : GrS w' B0 v xs := by
  refine ⟨h.1, ?_⟩
  rcases h.2 with hn | ⟨g, cap, cur, rfl, hbg, hgg, rest⟩
  · exact .inl hn
  · refine .inr ⟨g, cap, cur, rfl, hbg, ?_, rest⟩
    rw [hb.block g (Array.getElem?_eq_some_iff.1 hgg).1]
    exact hgg
theorem GrS.draws {w : World} {B0 : Nat} {v : Value} {xs : List ByteArray} (h : GrS w B0 v xs) (n : Nat) : GrS (w.drewN n) B0 v xs := h
/-- where such a list lies -/
theorem GrS.own {w : World} {B0 : Nat} {v : Value} {xs : List ByteArray} (h : GrS w B0 v xs) (h0 : xs ≠ []) : ∃ b cap, v = .slice (some ⟨b, 0, none⟩) xs.length cap ∧ B0 ≤ b ∧ b < w.heap.size ∧ xs.length ≤ cap ∧ cap ≤ maxLen ∧
    ∀ (j : Nat) x, xs[j]? = some x → w.cell? ⟨b, 0 + j, none⟩ = some (.string x) := by
  rcases h.2 with ⟨rfl, h1⟩ | ⟨g, cap, cur, rfl, hbg, hgg, hnc, hcm, hcs, htake⟩
  · exact absurd (List.eq_nil_of_length_eq_zero h1) h0
  · refine ⟨g, cap, rfl, hbg, (Array.getElem?_eq_some_iff.1 hgg).1, hnc, hcm, fun j x hj => ?_⟩
    have hj' := (List.getElem?_eq_some_iff.1 hj).1
    rw [Nat.zero_add, cell_of_row w g j cur 9 (0, 0) hgg]
    have h1 : cur.toList[j]? = some (.string x) := by
      have h2 : (cur.toList.take (xs.length * 1))[j]? = (xs.map Value.string)[j]? := by rw [htake]
      rw [List.getElem?_take, if_pos (by omega)] at h2
      rw [h2]
      simp [hj]
    simpa using h1
end Go.Proofs.YtknabmknboffgaaDoor
