/- Roses: what is valid, how the laws copy and compare them. No statement is proved here. -/
import Derived.Test.YtbpklmclikajlaaWin
namespace Go.Proofs.Ytbpklmclikajlaa
open Go Go.RowKit
/-- a rose in memory: its two lists -/
def Rs (w : World) (A L : Option Addr) (a l : List Nat) : Prop := Fl w A a ∧ Fl w L l
theorem Rs.below {w w' : World} {A L : Option Addr} {a l : List Nat} (h : Rs w A L a l) (hb : Below w.heap.size w w') : Rs w' A L a l := ⟨h.1.below hb, h.2.below hb⟩
theorem Rs.draws {w : World} {A L : Option Addr} {a l : List Nat} (h : Rs w A L a l) (n : Nat) : Rs (w.drewN n) A L a l := h
def FewS (a l : List Nat) : Prop := a.length + l.length ≤ 1048576
def sizedS (a l : List Nat) : Prop := 1 ≤ a.length ∧ a.length ≤ 16 ∧ l.length = a.length
instance (a l : List Nat) : Decidable (sizedS a l) := by unfold sizedS; infer_instance
/-- a valid rose -/
def rosV (a l : List Nat) : Bool := decide (sizedS a l) && (amts a a.length && amts l l.length)
theorem rosV_no {a l : List Nat} (h : ¬ sizedS a l) : rosV a l = false := by unfold rosV; rw [decide_eq_false h]; rfl
theorem rosV_yes {a l : List Nat} (h : sizedS a l) : rosV a l = (amts a a.length && amts l l.length) := by unfold rosV; rw [decide_eq_true h]; rfl
theorem rosV_sized {a l : List Nat} (h : rosV a l = true) : sizedS a l := by unfold rosV at h; rw [Bool.and_eq_true] at h; exact of_decide_eq_true h.1
theorem rosV_amts {a l : List Nat} (h : rosV a l = true) : amts a a.length = true ∧ amts l l.length = true := by unfold rosV at h; simp only [Bool.and_eq_true] at h; exact h.2
/-- both lists, one knot after another -/
def two (a l : List Nat) : Nat → Bool
  | 0 => true
  | k + 1 => two a l k && (amount (a.getD k 0) && amount (l.getD k 0))
theorem two_eq (a l : List Nat) (n : Nat) : two a l n = (amts a n && amts l n) := by
  induction n with
  | zero => rfl
  | succ n ih =>
    simp only [two, amts, ih]
    cases amts a n <;> cases amts l n <;> cases amount (a.getD n 0) <;> simp
theorem two_no {a l : List Nat} {k n : Nat} (h : two a l k = false) (hk : k ≤ n) : two a l n = false := by
  induction n with
  | zero => rw [show k = 0 by omega] at h; exact h
  | succ n ih =>
    by_cases e : k = n + 1
    · rw [← e]; exact h
    · simp only [two, ih (by omega), Bool.false_and]
theorem rosV_two {a l : List Nat} (h : sizedS a l) : rosV a l = two a l a.length := by rw [rosV_yes h, two_eq, h.2.2]
theorem amts_at {xs : List Nat} {n : Nat} (h : amts xs n = true) : ∀ j, j < n → amount (xs.getD j 0) = true := by
  induction n with
  | zero => intro j hj; omega
  | succ n ih =>
    intro j hj
    simp only [amts, Bool.and_eq_true] at h
    by_cases e : j = n
    · rw [e]; exact h.2
    · exact ih h.1 j (by omega)
theorem fin_of_amount {x : Nat} (h : amount x = true) : fin .f32 x = true := by unfold amount at h; rw [Bool.and_eq_true] at h; exact h.1
/-- two lists in new memory -/
def OwnS (w : World) (B b1 b2 : Nat) (a l : List Nat) : Prop := B ≤ b1 ∧ b1 < b2 ∧ Own w b1 a ∧ Own w b2 l
theorem OwnS.rs {w : World} {B b1 b2 : Nat} {a l : List Nat} (h : OwnS w B b1 b2 a l) : Rs w (some ⟨b1, 0, none⟩) (some ⟨b2, 0, none⟩) a l := ⟨h.2.2.1.fl, h.2.2.2.fl⟩
theorem OwnS.below {w w' : World} {B b1 b2 : Nat} {a l : List Nat} (h : OwnS w B b1 b2 a l) (hb : Below w.heap.size w w') : OwnS w' B b1 b2 a l := ⟨h.1, h.2.1, h.2.2.1.below hb, h.2.2.2.below hb⟩
theorem OwnS.draws {w : World} {B b1 b2 : Nat} {a l : List Nat} (h : OwnS w B b1 b2 a l) (n : Nat) : OwnS (w.drewN n) B b1 b2 a l := h
def secB (c : Int) : Bool := decide (1 ≤ c ∧ c ≤ 16)
end Go.Proofs.Ytbpklmclikajlaa
