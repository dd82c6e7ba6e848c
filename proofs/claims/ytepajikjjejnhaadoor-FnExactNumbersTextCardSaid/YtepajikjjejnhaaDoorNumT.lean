/- NumbersText of chapter 1, both sides with its bound. No statement is proved here. -/
import Derived.Test.YtepajikjjejnhaaDoorTxt
import Derived.Test.YtepajikjjejnhaaDoorSums
namespace Go.Proofs.YtepajikjjejnhaaDoor
open Go Go.RowKit
def numO (xs : List Nat) : Bool := decide (xs.length ≤ 256)
def numT (xs : List Nat) : ByteArray := if numO xs then textS xs else ⟨#[]⟩
theorem i_NumbersTextN (A : Option Addr) (cap : Nat) (xs : List Nat) (w : World) (h : Fl w A xs) (hw : ∀ x ∈ xs, canon .f32 x < 4294967296) (hT : T64 w) :
    Calls Tryd.prog 13 #[.slice A xs.length cap] w fun e w' => e = .returned (.tuple #[.string (numT xs), .bool (numO xs)]) ∧ Below w.heap.size w w' := by
  by_cases hn : xs.length ≤ 256
  · have e : numO xs = true := by unfold numO; exact decide_eq_true hn
    have e2 : numT xs = textS xs := by unfold numT; rw [e]; rfl
    rw [e, e2]
    exact i_NumbersText A cap xs w h hn hw hT
  · have e : numO xs = false := by unfold numO; exact decide_eq_false hn
    have e2 : numT xs = ⟨#[]⟩ := by unfold numT; rw [e]; rfl
    rw [e, e2]
    exact (i_NumbersText_no A xs.length cap w (by omega)).mono fun e w' ⟨h1, h2⟩ => ⟨h1, h2 ▸ Below.refl _ _⟩
theorem s_NumbersTextN (A : Option Addr) (cap : Nat) (xs : List Nat) (w : World) (h : Fl w A xs) (hw : ∀ x ∈ xs, canon .f32 x < 4294967296) :
    Calls Tryd.prog 11 #[.slice A xs.length cap] w fun e w' => e = .returned (.tuple #[.string (numT xs), .bool (numO xs)]) ∧ Below w.heap.size w w' := by
  by_cases hn : xs.length ≤ 256
  · have e : numO xs = true := by unfold numO; exact decide_eq_true hn
    have e2 : numT xs = textS xs := by unfold numT; rw [e]; rfl
    rw [e, e2]
    have HC := Lib.hid (s_l01NText A cap xs w h hn hw)
    clear e e2 h hw
    go_enter Tryd.func11, Tryd.ntmps11
    go_wp2_with fail
    refine (s_l01Few_yes A xs.length cap w hn).mono ?_
    rintro e w1 ⟨rfl, rfl⟩
    go_wp2_with fail
    refine HC.out.mono ?_
    rintro e w2 ⟨rfl, hb⟩
    go_wp2
    go_ret2
    exact ⟨rfl, hb⟩
  · have e : numO xs = false := by unfold numO; exact decide_eq_false hn
    have e2 : numT xs = ⟨#[]⟩ := by unfold numT; rw [e]; rfl
    rw [e, e2]
    clear e e2 h hw
    go_enter Tryd.func11, Tryd.ntmps11
    go_wp2_with fail
    refine (s_l01Few_no A xs.length cap w (by omega)).mono ?_
    rintro e w1 ⟨rfl, rfl⟩
    go_wp2
    go_ret2
    exact ⟨rfl, Below.refl _ _⟩
end Go.Proofs.YtepajikjjejnhaaDoor
