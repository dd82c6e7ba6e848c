/- Mixed loads: both sides. No statement is proved here. -/
import Derived.Test.YtpmjikchlofebaaLoad
import Derived.Test.YtpmjikchlofebaaApp
namespace Go.Proofs.Ytpmjikchlofebaa
open Go Go.RowKit
theorem BlkL.one {w : World} {B : Nat} {v0 : Value} (h : BlkL w B [v0]) : w.cell? ⟨B, 0, none⟩ = some v0 := (h.2 0 _ rfl).1
def mixV (a b : List Nat) (x y k : Nat) : Nat := fop .add .f32 (fop .mul .f32 (canon .f32 x) (canon .f32 (a.getD k 0))) (fop .mul .f32 (canon .f32 y) (canon .f32 (b.getD k 0)))
def mixC (a b : List Nat) (x y : Nat) : Bool := ldV a && (ldV b && (decide (a.length = b.length) && (fin .f32 x && fin .f32 y)))
def mixO (a b : List Nat) (x y : Nat) : Bool := mixC a b x y && alls (fun i => fin .f32 (mixV a b x y i)) a.length
def mixL (a b : List Nat) (x y : Nat) : List Nat := if mixO a b x y then (List.range a.length).map (mixV a b x y) else []
theorem mixO_c {a b : List Nat} {x y : Nat} (h : mixC a b x y = false) : mixO a b x y = false := by unfold mixO; rw [h]; rfl
theorem mixO_a {a b : List Nat} {x y k : Nat} (h : alls (fun i => fin .f32 (mixV a b x y i)) k = false) (hk : k ≤ a.length) : mixO a b x y = false := by unfold mixO; rw [alls_no h hk, Bool.and_false]
theorem mixO_yes {a b : List Nat} {x y : Nat} (h : mixC a b x y = true) (h2 : alls (fun i => fin .f32 (mixV a b x y i)) a.length = true) : mixO a b x y = true := by unfold mixO; rw [h, h2]; rfl
theorem mixO_at {a b : List Nat} {x y : Nat} (h : mixO a b x y = true) : ∀ k, k < a.length → fin .f32 (mixV a b x y k) = true := by unfold mixO at h; rw [Bool.and_eq_true] at h; exact alls_at h.2
theorem mixL_no {a b : List Nat} {x y : Nat} (h : mixO a b x y = false) : mixL a b x y = [] := by unfold mixL; rw [h]; rfl
theorem mixL_yes {a b : List Nat} {x y : Nat} (h : mixO a b x y = true) : mixL a b x y = (List.range a.length).map (mixV a b x y) := by unfold mixL; rw [h]; rfl
theorem mixL_len {a b : List Nat} {x y : Nat} (h : mixO a b x y = true) : (mixL a b x y).length = a.length := by rw [mixL_yes h]; simp
theorem mixL_few (a b : List Nat) (x y : Nat) (h : a.length ≤ 1048576) : (mixL a b x y).length ≤ 1048576 := by
  cases ho : mixO a b x y
  · rw [mixL_no ho]; simp
  · rw [mixL_len ho]; exact h
theorem fins_alls {ys : List Nat} {q : Nat → Nat} {n : Nat} (h : ∀ k, k < n → canon .f32 (ys.getD k 0) = q k) : ∀ k, k ≤ n → fins ys k = alls (fun i => fin .f32 (q i)) k := by
  intro k; induction k with
  | zero => intro _; rfl
  | succ k ih => intro hk; simp only [fins, alls, ih (by omega)]; rw [← h k (by omega), fin_canon]

end Go.Proofs.Ytpmjikchlofebaa
