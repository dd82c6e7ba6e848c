/- Lists of cycles of the call's own, and how the laws mark them. No statement is proved here. -/
import Derived.Test.YtpchkedgjikpfabCyc
import Derived.Test.YtpchkedgjikpfabMarkB
namespace Go.Proofs.Ytpchkedgjikpfab
open Go Go.RowKit
theorem OwnC.turn {w w' : World} {S : Nat → Prop} {b : Nat} {xs : List (Nat × Nat × Bool)} (h : OwnC w b xs) (ht : Turn w w' S) (hs : ¬ S b) : OwnC w' b xs :=
  ⟨Nat.lt_of_lt_of_le h.1 ht.1, fun j hj => ⟨by rw [ht.2.1 ⟨b, j * 3, none⟩ h.1 hs, ht.2.1 ⟨b, j * 3 + 1, none⟩ h.1 hs, ht.2.1 ⟨b, j * 3 + 2, none⟩ h.1 hs]; exact (h.2 j hj).1, fun i hi => by rw [ht.2.2.1 ⟨b, j * 3 + i, none⟩ h.1]; exact (h.2 j hj).2 i hi⟩⟩
def OwnOC (w : World) (B0 : Nat) (A : Option Addr) (b : Nat) (xs : List (Nat × Nat × Bool)) : Prop := xs = [] ∨ (A = some ⟨b, 0, none⟩ ∧ B0 ≤ b ∧ OwnC w b xs)
/-- as OwnOC, for a walk -/
def OwnAC (w : World) (A : Option Addr) (b : Nat) (xs : List (Nat × Nat × Bool)) : Prop := xs = [] ∨ (A = some ⟨b, 0, none⟩ ∧ OwnC w b xs)
theorem OwnC.o {w : World} {B b : Nat} {xs : List (Nat × Nat × Bool)} (h : OwnC w b xs) (hB : B ≤ b) : OwnOC w B (some ⟨b, 0, none⟩) b xs := .inr ⟨rfl, hB, h⟩
theorem OwnOC.a {w : World} {B0 b : Nat} {A : Option Addr} {xs : List (Nat × Nat × Bool)} (h : OwnOC w B0 A b xs) : OwnAC w A b xs := by
  rcases h with h | ⟨h1, -, h2⟩
  · exact .inl h
  · exact .inr ⟨h1, h2⟩
theorem OwnOC.fl {w : World} {B0 b : Nat} {A : Option Addr} {xs : List (Nat × Nat × Bool)} (h : OwnOC w B0 A b xs) : FlC w A xs := by
  rcases h with h | ⟨rfl, -, h⟩
  · exact .inl h
  · exact h.fl
theorem OwnOC.below {w w' : World} {B0 b : Nat} {A : Option Addr} {xs : List (Nat × Nat × Bool)} (h : OwnOC w B0 A b xs) (hb : Below w.heap.size w w') : OwnOC w' B0 A b xs := by
  rcases h with h | ⟨h1, h2, h3⟩
  · exact .inl h
  · exact .inr ⟨h1, h2, h3.below hb⟩
theorem OwnOC.turn {w w' : World} {S : Nat → Prop} {B0 b : Nat} {A : Option Addr} {xs : List (Nat × Nat × Bool)} (h : OwnOC w B0 A b xs) (ht : Turn w w' S) (hs : ¬ S b) : OwnOC w' B0 A b xs := by
  rcases h with h | ⟨h1, h2, h3⟩
  · exact .inl h
  · exact .inr ⟨h1, h2, h3.turn ht hs⟩
/-- the block of a list, if it has any cycle -/
def SBC (xs : List (Nat × Nat × Bool)) (B : Nat) : Nat → Prop := fun b => xs ≠ [] ∧ b = B
theorem OwnOC.lt {w : World} {B0 b : Nat} {A : Option Addr} {xs : List (Nat × Nat × Bool)} (h : OwnOC w B0 A b xs) (hx : xs ≠ []) : B0 ≤ b ∧ b < w.heap.size := by
  rcases h with h | ⟨-, h1, h2⟩
  · exact absurd h hx
  · exact ⟨h1, h2.1⟩
theorem OwnOC.turnS {w w' : World} {S : Nat → Prop} {B0 b : Nat} {A : Option Addr} {xs : List (Nat × Nat × Bool)} (h : OwnOC w B0 A b xs) (ht : Turn w w' S) (hs : ∀ c, SBC xs b c → ¬ S c) : OwnOC w' B0 A b xs := by
  by_cases hx : xs = []
  · exact .inl hx
  · exact h.turn ht (hs _ ⟨hx, rfl⟩)
theorem OwnOC.bd {w : World} {B0 b : Nat} {A : Option Addr} {xs : List (Nat × Nat × Bool)} (h : OwnOC w B0 A b xs) {c : Nat} (hc : SBC xs b c) : B0 ≤ c ∧ c < w.heap.size := by
  obtain ⟨h0, rfl⟩ := hc
  exact h.lt h0
theorem OwnOC.mk' {w w0 : World} {B0 b : Nat} {A : Option Addr} {xs ys : List (Nat × Nat × Bool)} (h : OwnOC w0 B0 A b xs) (hl : ys.length = xs.length) (hm : xs = [] ∨ OwnC w b ys) : OwnOC w B0 A b ys := by
  rcases h with h | ⟨h1, h2, -⟩
  · subst h
    exact .inl (List.eq_nil_of_length_eq_zero hl)
  · rcases hm with hm | hm
    · subst hm
      exact .inl (List.eq_nil_of_length_eq_zero hl)
    · exact .inr ⟨h1, h2, hm⟩
theorem SBC.ne {xs : List (Nat × Nat × Bool)} {b c : Nat} (h : c ≠ b) : ¬ SBC xs b c := fun hh => h hh.2
end Go.Proofs.Ytpchkedgjikpfab
