/- Lists of complex64: what holds them. No statement is proved here. -/
import Derived.Test.YtpmjikchlofebaaMarkR
namespace Go.Proofs.Ytpmjikchlofebaa
open Go Go.RowKit
/-- a complex number of two words -/
def cxV (p : Nat × Nat) : Value := .complex .f32 p.1 p.2
/-- a slice that reads as these 32-bit numbers -/
def FlZ (w : World) (A : Option Addr) (xs : List (Nat × Nat)) : Prop :=
  xs = [] ∨ ∃ b off, A = some ⟨b, off, none⟩ ∧ b < w.heap.size ∧ ∀ k, k < xs.length → w.cell? ⟨b, off + k, none⟩ = some (cxV (xs.getD k (0, 0)))

theorem FlZ.below {w w' : World} {A : Option Addr} {xs : List (Nat × Nat)} (h : FlZ w A xs) (hb : Below w.heap.size w w') : FlZ w' A xs := by
  rcases h with h | ⟨b, off, e, hlt, hc⟩
  · exact .inl h
  · exact .inr ⟨b, off, e, Nat.lt_of_lt_of_le hlt hb.size, fun k hk => by rw [hb.cell (p := ⟨b, off + k, none⟩) hlt]; exact hc k hk⟩
theorem FlZ.draws {w : World} {A : Option Addr} {xs : List (Nat × Nat)} (h : FlZ w A xs) (n : Nat) : FlZ (w.drewN n) A xs := h
theorem FlZ.at_ {w : World} {A : Option Addr} {xs : List (Nat × Nat)} (h : FlZ w A xs) {k : Nat} (hk : k < xs.length) :
    ∃ b off, A = some ⟨b, off, none⟩ ∧ b < w.heap.size ∧ w.cell? ⟨b, off + k, none⟩ = some (cxV (xs.getD k (0, 0))) := by
  rcases h with h | ⟨b, off, e, hlt, hc⟩
  · subst h; simp at hk
  · exact ⟨b, off, e, hlt, hc k hk⟩

def OwnZ (w : World) (B : Nat) (xs : List (Nat × Nat)) : Prop :=
  B < w.heap.size ∧ ∀ j, j < xs.length → w.cell? ⟨B, j, none⟩ = some (cxV (xs.getD j (0, 0))) ∧ w.frozen? ⟨B, j, none⟩ = false
theorem OwnZ.fl {w : World} {B : Nat} {xs : List (Nat × Nat)} (h : OwnZ w B xs) : FlZ w (some ⟨B, 0, none⟩) xs :=
  .inr ⟨B, 0, rfl, h.1, fun k hk => by rw [Nat.zero_add]; exact (h.2 k hk).1⟩
theorem OwnZ.below {w w' : World} {B : Nat} {xs : List (Nat × Nat)} (h : OwnZ w B xs) (hb : Below w.heap.size w w') : OwnZ w' B xs :=
  ⟨Nat.lt_of_lt_of_le h.1 hb.size, fun j hj => ⟨by rw [hb.cell (p := ⟨B, j, none⟩) h.1]; exact (h.2 j hj).1, by rw [hb.frozen (p := ⟨B, j, none⟩) h.1]; exact (h.2 j hj).2⟩⟩
theorem OwnZ.setCell {w : World} {B : Nat} {xs : List (Nat × Nat)} (h : OwnZ w B xs) {p : Addr} (hp : p.block ≠ B) (v : Value) : OwnZ (w.setCell p v) B xs :=
  ⟨by simpa [World.setCell] using h.1, fun j hj => ⟨by rw [World.cell?_setCell_other (h := by intro hh; exact hp (by rw [hh]))]; exact (h.2 j hj).1, by rw [World.frozen?_setCell]; exact (h.2 j hj).2⟩⟩
def marksZ (k n : Nat) : List (Nat × Nat) := (List.range n).map fun (j : Nat) => (narrow (floatOfInt .f64 ((k : Int) + (j : Int))), 1065353216)
theorem marks_lengthZ (k n : Nat) : (marksZ k n).length = n := by simp [marksZ]
theorem marks_atZ {k n j : Nat} (h : j < n) : (marksZ k n).getD j (0, 0) = (narrow (floatOfInt .f64 ((k : Int) + (j : Int))), 1065353216) := by simp [marksZ, List.getD, h]
theorem OwnZ.turn {w w' : World} {S : Nat → Prop} {b : Nat} {xs : List (Nat × Nat)} (h : OwnZ w b xs) (ht : Turn w w' S) (hs : ¬ S b) : OwnZ w' b xs :=
  ⟨Nat.lt_of_lt_of_le h.1 ht.1, fun j hj => ⟨by rw [ht.2.1 ⟨b, j, none⟩ h.1 hs]; exact (h.2 j hj).1, by rw [ht.2.2.1 ⟨b, j, none⟩ h.1]; exact (h.2 j hj).2⟩⟩
def OwnOZ (w : World) (B0 : Nat) (A : Option Addr) (b : Nat) (xs : List (Nat × Nat)) : Prop := xs = [] ∨ (A = some ⟨b, 0, none⟩ ∧ B0 ≤ b ∧ OwnZ w b xs)
theorem OwnOZ.a {w : World} {B0 b : Nat} {A : Option Addr} {xs : List (Nat × Nat)} (h : OwnOZ w B0 A b xs) : xs = [] ∨ (A = some ⟨b, 0, none⟩ ∧ OwnZ w b xs) := by
  rcases h with h | ⟨h1, -, h2⟩
  · exact .inl h
  · exact .inr ⟨h1, h2⟩
theorem OwnOZ.fl {w : World} {B0 b : Nat} {A : Option Addr} {xs : List (Nat × Nat)} (h : OwnOZ w B0 A b xs) : FlZ w A xs := by
  rcases h with h | ⟨rfl, -, h⟩
  · exact .inl h
  · exact h.fl
theorem OwnOZ.below {w w' : World} {B0 b : Nat} {A : Option Addr} {xs : List (Nat × Nat)} (h : OwnOZ w B0 A b xs) (hb : Below w.heap.size w w') : OwnOZ w' B0 A b xs := by
  rcases h with h | ⟨h1, h2, h3⟩
  · exact .inl h
  · exact .inr ⟨h1, h2, h3.below hb⟩
theorem OwnOZ.turn {w w' : World} {S : Nat → Prop} {B0 b : Nat} {A : Option Addr} {xs : List (Nat × Nat)} (h : OwnOZ w B0 A b xs) (ht : Turn w w' S) (hs : ¬ S b) : OwnOZ w' B0 A b xs := by
  rcases h with h | ⟨h1, h2, h3⟩
  · exact .inl h
  · exact .inr ⟨h1, h2, h3.turn ht hs⟩
/-- as OwnOZ, for a walk -/
def OwnAZ (w : World) (A : Option Addr) (b : Nat) (xs : List (Nat × Nat)) : Prop := xs = [] ∨ (A = some ⟨b, 0, none⟩ ∧ OwnZ w b xs)
/-- the block of a list, if it has any number -/
def SBZ (xs : List (Nat × Nat)) (B : Nat) : Nat → Prop := fun b => xs ≠ [] ∧ b = B
theorem OwnOZ.notS {w : World} {B0 b : Nat} {A : Option Addr} {xs : List (Nat × Nat)} (h : OwnOZ w B0 A b xs) {c : Nat} (hc : w.heap.size ≤ c) : ¬ SBZ xs b c := by
  rintro ⟨h0, rfl⟩
  rcases h with h | ⟨-, -, h⟩
  · exact h0 h
  · have := h.1; omega
theorem OwnOZ.leS {w : World} {B0 b : Nat} {A : Option Addr} {xs : List (Nat × Nat)} (h : OwnOZ w B0 A b xs) {c : Nat} (hc : SBZ xs b c) : B0 ≤ c := by
  obtain ⟨h0, rfl⟩ := hc
  rcases h with h | ⟨-, h, -⟩
  · exact absurd h h0
  · exact h
theorem OwnOZ.lt {w : World} {B0 b : Nat} {A : Option Addr} {xs : List (Nat × Nat)} (h : OwnOZ w B0 A b xs) (hx : xs ≠ []) : B0 ≤ b ∧ b < w.heap.size := by
  rcases h with h | ⟨-, h1, h2⟩
  · exact absurd h hx
  · exact ⟨h1, h2.1⟩
theorem SBZ.ne {xs : List (Nat × Nat)} {b c : Nat} (h : c ≠ b) : ¬ SBZ xs b c := fun hh => h hh.2
def halfZ (xs : List (Nat × Nat)) (k0 k : Nat) : List (Nat × Nat) := (List.range xs.length).map fun j => if j < k then (narrow (floatOfInt .f64 ((k0 : Int) + (j : Int))), 1065353216) else xs.getD j (0, 0)
theorem half_lengthZ (xs : List (Nat × Nat)) (k0 k : Nat) : (halfZ xs k0 k).length = xs.length := by simp [halfZ]
theorem half_atZ {xs : List (Nat × Nat)} {k0 k j : Nat} (h : j < xs.length) : (halfZ xs k0 k).getD j (0, 0) = if j < k then (narrow (floatOfInt .f64 ((k0 : Int) + (j : Int))), 1065353216) else xs.getD j (0, 0) := by simp [halfZ, List.getD, h]
theorem half_zeroZ (xs : List (Nat × Nat)) (k0 : Nat) : halfZ xs k0 0 = xs := by
  apply List.ext_getElem
  · simp [halfZ]
  · intro j h1 h2; simp [halfZ, List.getD, h2]
theorem half_allZ (xs : List (Nat × Nat)) (k0 : Nat) : halfZ xs k0 xs.length = marksZ k0 xs.length := by
  apply List.ext_getElem
  · simp [halfZ, marksZ]
  · intro j h1 h2
    simp [halfZ] at h1
    simp [halfZ, marksZ, h1]
theorem OwnZ.mark {w : World} {B : Nat} {xs : List (Nat × Nat)} {k0 k : Nat} (h : OwnZ w B (halfZ xs k0 k)) (hk : k < xs.length) : OwnZ (w.setCell ⟨B, k, none⟩ (cxV (narrow (floatOfInt .f64 ((k0 : Int) + (k : Int))), 1065353216))) B (halfZ xs k0 (k + 1)) := by
  refine ⟨by simpa [World.setCell] using h.1, fun j hj => ⟨?_, ?_⟩⟩
  · rw [half_lengthZ] at hj
    rw [half_atZ hj]
    obtain ⟨h1, -⟩ := h.2 j (by rw [half_lengthZ]; exact hj)
    by_cases e : j = k
    · subst e
      rw [World.cell?_setCell_same (h := h1), if_pos (by omega)]
    · rw [World.cell?_setCell_other (h := by intro hh; simp only [Addr.mk.injEq] at hh; omega), h1, half_atZ hj]
      by_cases hj2 : j < k
      · rw [if_pos hj2, if_pos (by omega)]
      · rw [if_neg hj2, if_neg (by omega)]
  · rw [half_lengthZ] at hj
    rw [World.frozen?_setCell]; exact (h.2 j (by rw [half_lengthZ]; exact hj)).2
theorem OwnOZ.turnS {w w' : World} {S : Nat → Prop} {B0 b : Nat} {A : Option Addr} {xs : List (Nat × Nat)} (h : OwnOZ w B0 A b xs) (ht : Turn w w' S) (hs : ∀ c, SBZ xs b c → ¬ S c) : OwnOZ w' B0 A b xs := by
  by_cases hx : xs = []
  · exact .inl hx
  · exact h.turn ht (hs _ ⟨hx, rfl⟩)
theorem OwnOZ.bd {w : World} {B0 b : Nat} {A : Option Addr} {xs : List (Nat × Nat)} (h : OwnOZ w B0 A b xs) {c : Nat} (hc : SBZ xs b c) : B0 ≤ c ∧ c < w.heap.size := by
  obtain ⟨h0, rfl⟩ := hc
  exact h.lt h0
end Go.Proofs.Ytpmjikchlofebaa
