/- Lists of numbers that grow by append. No statement is proved here. -/
import Derived.Test.YtpmjikchlofebaaMark
import Derived.Test.YtpmjikchlofebaaList
namespace Go.Proofs.Ytpmjikchlofebaa
open Go Go.RowKit
/-- a list of numbers of the call's own, that may grow -/
def Gr (w : World) (B0 : Nat) (v : Value) (xs : List Nat) : Prop := w.ownsRow B0 22 1 v xs.length (xs.map (Value.float .f32))
theorem f32_info : (Try.prog.info? 22).map (fun i => (i.zero, i.size, i.bytes)) = some (some (.float .f32 0), 1, 4) := by kernel_rfl
theorem Gr.nil (w : World) (B0 : Nat) : Gr w B0 (.slice none 0 0) [] := World.ownsRow_nil _ _ _ _
theorem Gr.made (w : World) (B0 cap : Nat) (cur : Array Value) (hb : B0 ≤ w.heap.size) (hm : cap ≤ maxLen) (hs : cur.size = cap) : Gr (w.alloc (.cells cur 22)) B0 (.slice (some ⟨w.heap.size, 0, none⟩) 0 cap) [] :=
  World.ownsRow_made w cur cap hb hm (by rw [hs, Nat.mul_one])
theorem Gr.next {w0 wr w1 : World} {B0 x : Nat} {v v' : Value} {xs : List Nat} {o : Obj} (h : Gr wr B0 v xs) (hb : Below w0.heap.size w0 wr) (hB : w0.heap.size ≤ B0)
    (ho : w1.ownsRow B0 22 1 v' (xs.length + 1) (xs.map (Value.float .f32) ++ [.float .f32 x])) (hg : (wr.alloc o).grownBy w1 v.ownBlock) : Gr w1 B0 v' (xs ++ [x]) ∧ Below w0.heap.size w0 w1 := by
  refine ⟨by unfold Gr; simpa using ho, ?_⟩
  have hlt := World.ownsRow.lt h
  exact (hb.alloc hb.size o).grown hg (by have := hb.size; simp; omega) (fun k hk => by have := (hlt k hk).1; omega)
theorem Gr.of_ownsRow {w : World} {B0 : Nat} {v : Value} {xs : List Nat} (h : Gr w B0 v xs) : w.ownsRow B0 22 1 v xs.length (xs.map (Value.float .f32)) := h
theorem Gr.below {w w' : World} {B0 : Nat} {v : Value} {xs : List Nat} (h : Gr w B0 v xs) (hb : Below w.heap.size w w') : Gr w' B0 v xs := by
  refine ⟨h.1, ?_⟩
  rcases h.2 with hn | ⟨g, cap, cur, rfl, hbg, hgg, rest⟩
  · exact .inl hn
  · refine .inr ⟨g, cap, cur, rfl, hbg, ?_, rest⟩
    rw [hb.block g (Array.getElem?_eq_some_iff.1 hgg).1]
    exact hgg
theorem Gr.draws {w : World} {B0 : Nat} {v : Value} {xs : List Nat} (h : Gr w B0 v xs) (n : Nat) : Gr (w.drewN n) B0 v xs := h
/-- what such a list is -/
theorem Gr.own {w : World} {B0 : Nat} {v : Value} {xs : List Nat} (h : Gr w B0 v xs) : ∃ A cap b, v = .slice A xs.length cap ∧ OwnO w B0 A b xs := by
  rcases h.2 with ⟨rfl, h0⟩ | ⟨g, cap, cur, rfl, hbg, hgg, hnc, hcm, hcs, htake⟩
  · refine ⟨none, 0, 0, by rw [h0], .inl (List.eq_nil_of_length_eq_zero h0)⟩
  · refine ⟨_, cap, g, rfl, .inr ⟨rfl, hbg, (Array.getElem?_eq_some_iff.1 hgg).1, fun j hj => ⟨?_, ?_⟩⟩⟩
    · rw [cell_of_row w g j cur 22 (0, 0) hgg]
      have h1 : cur.toList[j]? = some (Value.float .f32 (xs.getD j 0)) := by
        have h2 : (cur.toList.take (xs.length * 1))[j]? = (xs.map (Value.float .f32))[j]? := by rw [htake]
        rw [List.getElem?_take, if_pos (by omega)] at h2
        rw [h2]
        simp [List.getD, hj]
      simpa using h1
    · simp [World.frozen?, hgg]
def alls (p : Nat → Bool) : Nat → Bool
  | 0 => true
  | k + 1 => alls p k && p k
theorem alls_no {p : Nat → Bool} {k n : Nat} (h : alls p k = false) (hk : k ≤ n) : alls p n = false := by
  induction n with
  | zero => rw [show k = 0 by omega] at h; exact h
  | succ n ih =>
    by_cases e : k = n + 1
    · rw [← e]; exact h
    · simp only [alls, ih (by omega), Bool.false_and]
theorem alls_at {p : Nat → Bool} {n : Nat} (h : alls p n = true) : ∀ j, j < n → p j = true := by
  induction n with
  | zero => intro j hj; omega
  | succ n ih =>
    intro j hj
    simp only [alls, Bool.and_eq_true] at h
    by_cases e : j = n
    · rw [e]; exact h.2
    · exact ih h.1 j (by omega)
theorem getD_snoc (ys : List Nat) (x j : Nat) (hj : j < ys.length + 1) : (ys ++ [x]).getD j 0 = if j = ys.length then x else ys.getD j 0 := by
  rw [List.getD_eq_getElem?_getD, List.getD_eq_getElem?_getD, List.getElem?_append]
  split
  · rename_i h
    split
    · rename_i h2; exact absurd h (by simp; omega)
    · rfl
  · rename_i h
    simp at h
    have : j = ys.length := by omega
    subst this
    simp
/-- words that are told by their canons -/
theorem list_exact {ys : List Nat} {q : Nat → Nat} {n : Nat} (hl : ys.length = n) (h : ∀ k, k < n → canon .f32 (ys.getD k 0) = q k) (hf : ∀ k, k < n → fin .f32 (q k) = true) : ys = (List.range n).map q := by
  apply List.ext_getElem
  · simp [hl]
  · intro j h1 h2
    have hj : j < n := by omega
    have e := h j hj
    have f := hf j hj
    have eq : ys.getD j 0 = ys[j] := by simp [List.getD, h1]
    rw [eq] at e
    have hn : isn .f32 ys[j] = false := by rw [← isn_canon, e]; exact isn_of_fin f
    rw [canon_of_not hn] at e
    simp [e]
end Go.Proofs.Ytpmjikchlofebaa
