/- Results in memory of their own: lists, roses, and blocks that nothing else turns. No statement is proved here. -/
import Derived.Test.YtknabmknboffgaaDoorMark
import Derived.Test.YtknabmknboffgaaDoorInv4
import Derived.Test.YtknabmknboffgaaDoorAir
namespace Go.Proofs.YtknabmknboffgaaDoor
open Go Go.RowKit
theorem OwnO.turnS {w w' : World} {S : Nat → Prop} {B0 b : Nat} {A : Option Addr} {xs : List Nat} (h : OwnO w B0 A b xs) (ht : Turn w w' S) (hs : ∀ c, SB xs b c → ¬ S c) : OwnO w' B0 A b xs := by
  by_cases hx : xs = []
  · exact .inl hx
  · exact h.turn ht (hs _ ⟨hx, rfl⟩)
theorem OwnO.bd {w : World} {B0 b : Nat} {A : Option Addr} {xs : List Nat} (h : OwnO w B0 A b xs) {c : Nat} (hc : SB xs b c) : B0 ≤ c ∧ c < w.heap.size := by
  obtain ⟨h0, rfl⟩ := hc
  exact h.lt h0
theorem BlkL.turnS {w w' : World} {S : Nat → Prop} {B : Nat} {vs : List Value} (h : BlkL w B vs) (ht : Turn w w' S) (hs : ¬ S B) : BlkL w' B vs :=
  ⟨Nat.lt_of_lt_of_le h.1 ht.1, fun j v hj => ⟨by rw [ht.2.1 ⟨B, j, none⟩ h.1 hs]; exact (h.2 j v hj).1, by rw [ht.2.2.1 ⟨B, j, none⟩ h.1]; exact (h.2 j v hj).2⟩⟩
theorem Own.o {w : World} {B b : Nat} {xs : List Nat} (h : Own w b xs) (hB : B ≤ b) : OwnO w B (some ⟨b, 0, none⟩) b xs := .inr ⟨rfl, hB, h⟩
theorem OwnO.mk' {w w0 : World} {B0 b : Nat} {A : Option Addr} {xs ys : List Nat} (h : OwnO w0 B0 A b xs) (hl : ys.length = xs.length) (hm : xs = [] ∨ Own w b ys) : OwnO w B0 A b ys := by
  rcases h with h | ⟨h1, h2, -⟩
  · left; exact List.eq_nil_of_length_eq_zero (by rw [hl, h]; rfl)
  · rcases hm with h | h
    · left; exact List.eq_nil_of_length_eq_zero (by rw [hl, h]; rfl)
    · exact .inr ⟨h1, h2, h⟩
/-- a rose of the call's own, or an empty one -/
def OwnR2 (w : World) (B0 : Nat) (A L : Option Addr) (b1 b2 : Nat) (a l : List Nat) : Prop := OwnO w B0 A b1 a ∧ OwnO w B0 L b2 l ∧ b1 ≠ b2
def SR (a l : List Nat) (b1 b2 : Nat) : Nat → Prop := fun b => SB a b1 b ∨ SB l b2 b
theorem OwnR2.fl {w : World} {B0 b1 b2 : Nat} {A L : Option Addr} {a l : List Nat} (h : OwnR2 w B0 A L b1 b2 a l) : Fl w A a ∧ Fl w L l := ⟨h.1.fl, h.2.1.fl⟩
theorem OwnR2.below {w w' : World} {B0 b1 b2 : Nat} {A L : Option Addr} {a l : List Nat} (h : OwnR2 w B0 A L b1 b2 a l) (hb : Below w.heap.size w w') : OwnR2 w' B0 A L b1 b2 a l := ⟨h.1.below hb, h.2.1.below hb, h.2.2⟩
theorem OwnR2.bd {w : World} {B0 b1 b2 : Nat} {A L : Option Addr} {a l : List Nat} (h : OwnR2 w B0 A L b1 b2 a l) {c : Nat} (hc : SR a l b1 b2 c) : B0 ≤ c ∧ c < w.heap.size := by
  rcases hc with hc | hc
  · exact h.1.bd hc
  · exact h.2.1.bd hc
theorem OwnR2.turnS {w w' : World} {S : Nat → Prop} {B0 b1 b2 : Nat} {A L : Option Addr} {a l : List Nat} (h : OwnR2 w B0 A L b1 b2 a l) (ht : Turn w w' S) (hs : ∀ c, SR a l b1 b2 c → ¬ S c) : OwnR2 w' B0 A L b1 b2 a l :=
  ⟨h.1.turnS ht (fun c hc => hs c (.inl hc)), h.2.1.turnS ht (fun c hc => hs c (.inr hc)), h.2.2⟩
theorem OwnR2.of {w : World} {B b1 b2 : Nat} {a l : List Nat} (h1 : Own w b1 a) (h2 : Own w b2 l) (hB : B ≤ b1) (hb : b1 < b2) : OwnR2 w B (some ⟨b1, 0, none⟩) (some ⟨b2, 0, none⟩) b1 b2 a l := ⟨h1.o hB, h2.o (by omega), by omega⟩
end Go.Proofs.YtknabmknboffgaaDoor
