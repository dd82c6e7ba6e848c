/- Air out of a text: attempt, and the reader. No statement is proved here. -/
import Derived.Test.YtknabmknboffgaaGreatDoorRdA
namespace Go.Proofs.YtknabmknboffgaaGreatDoor
open Go Go.RowKit
theorem five (w : World) (v0 v1 : Value) (a2 a3 a4 : Array Value) (t0 t1 t2 t3 t4 : TypeId) :
    BlkL (((((w.alloc (.cells #[v0] t0)).alloc (.cells #[v1] t1)).alloc (.cells a2 t2)).alloc (.cells a3 t3)).alloc (.cells a4 t4)) w.heap.size [v0] ∧
    BlkL (((((w.alloc (.cells #[v0] t0)).alloc (.cells #[v1] t1)).alloc (.cells a2 t2)).alloc (.cells a3 t3)).alloc (.cells a4 t4)) (w.heap.size + 1) [v1] ∧
    BlkL (((((w.alloc (.cells #[v0] t0)).alloc (.cells #[v1] t1)).alloc (.cells a2 t2)).alloc (.cells a3 t3)).alloc (.cells a4 t4)) (w.heap.size + 2) a2.toList ∧
    BlkL (((((w.alloc (.cells #[v0] t0)).alloc (.cells #[v1] t1)).alloc (.cells a2 t2)).alloc (.cells a3 t3)).alloc (.cells a4 t4)) (w.heap.size + 3) a3.toList ∧
    BlkL (((((w.alloc (.cells #[v0] t0)).alloc (.cells #[v1] t1)).alloc (.cells a2 t2)).alloc (.cells a3 t3)).alloc (.cells a4 t4)) (w.heap.size + 4) a4.toList ∧
    Below w.heap.size w (((((w.alloc (.cells #[v0] t0)).alloc (.cells #[v1] t1)).alloc (.cells a2 t2)).alloc (.cells a3 t3)).alloc (.cells a4 t4)) := by
  have up : ∀ (w : World) (o : Obj), Below w.heap.size w (w.alloc o) := fun w o => (Below.refl _ _).alloc (Nat.le_refl _) _
  obtain ⟨w1, h1⟩ : ∃ z, z = w.alloc (.cells #[v0] t0) := ⟨_, rfl⟩
  have s1 : w1.heap.size = w.heap.size + 1 := by rw [h1]; simp
  have k1 : BlkL w1 w.heap.size [v0] := by rw [h1]; exact blkL_at w #[v0] _ rfl
  have b1 := up w (.cells #[v0] t0)
  rw [← h1] at b1 ⊢
  obtain ⟨w2, h2⟩ : ∃ z, z = w1.alloc (.cells #[v1] t1) := ⟨_, rfl⟩
  have s2 : w2.heap.size = w.heap.size + 2 := by rw [h2]; simp [s1]
  have k2 : BlkL w2 w1.heap.size [v1] := by rw [h2]; exact blkL_at w1 #[v1] _ rfl
  have b2 := up w1 (.cells #[v1] t1)
  rw [← h2] at b2 ⊢
  obtain ⟨w3, h3⟩ : ∃ z, z = w2.alloc (.cells a2 t2) := ⟨_, rfl⟩
  have s3 : w3.heap.size = w.heap.size + 3 := by rw [h3]; simp [s2]
  have k3 : BlkL w3 w2.heap.size a2.toList := by rw [h3]; exact blkL_at w2 a2 _ rfl
  have b3 := up w2 (.cells a2 t2)
  rw [← h3] at b3 ⊢
  obtain ⟨w4, h4⟩ : ∃ z, z = w3.alloc (.cells a3 t3) := ⟨_, rfl⟩
  have s4 : w4.heap.size = w.heap.size + 4 := by rw [h4]; simp [s3]
  have k4 : BlkL w4 w3.heap.size a3.toList := by rw [h4]; exact blkL_at w3 a3 _ rfl
  have b4 := up w3 (.cells a3 t3)
  rw [← h4] at b4 ⊢
  have k5 : BlkL (w4.alloc (.cells a4 t4)) w4.heap.size a4.toList := blkL_at w4 a4 _ rfl
  have b5 := up w4 (.cells a4 t4)
  rw [s1] at k2
  rw [s2] at k3
  rw [s3] at k4
  rw [s4] at k5
  refine ⟨(((k1.below b2).below b3).below b4).below b5, ((k2.below b3).below b4).below b5, (k3.below b4).below b5, k4.below b5, k5, ?_⟩
  exact below_of (below_of (below_of (below_of b1 b1.size b2) (below_of b1 b1.size b2).size b3) (by omega) b4) (by omega) b5
end Go.Proofs.YtknabmknboffgaaGreatDoor
