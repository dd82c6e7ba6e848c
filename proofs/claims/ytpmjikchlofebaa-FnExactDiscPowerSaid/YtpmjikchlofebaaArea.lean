/- Areas below lifts. No statement is proved here. -/
import Derived.Test.YtpmjikchlofebaaVal
import Derived.Test.YtpmjikchlofebaaSums
namespace Go.Proofs.Ytpmjikchlofebaa
open Go Go.RowKit

/-- a number if it is finite -/
def onlyN (x : Nat) : Nat := if fin .f32 x then x else 0
theorem canon_onlyN (x : Nat) : canon .f32 (onlyN x) = onlyN (canon .f32 x) := by
  unfold onlyN
  rw [fin_canon]
  cases h : fin .f32 x
  · exact canon_zero
  · rfl
theorem i_onlyFinite (x : Nat) (w : World) :
    Calls Try.prog 126 #[.float .f32 x] w fun e w' => ∃ n, e = .returned (.tuple #[.float .f32 (onlyN x), .bool (fin .f32 x)]) ∧ w' = w.drewN n := by
  cases h : fin .f32 x
  all_goals
    have HF := Lib.hid h
    go_enter Try.func126, Try.ntmps126
    go_wp2_with fail
    refine (i_IsFinite _ _).mono ?_
    rintro e w' ⟨n, rfl, rfl⟩
    rw [show fin .f32 x = _ from HF.out]
    go_wp2
    go_ret2
    exact ⟨_, by unfold onlyN; rw [h]; rfl, rfl⟩
theorem s_l02Number (x : Nat) (w : World) :
    Calls Try.prog 62 #[.float .f32 x] w fun e w' => ∃ n, e = .returned (.tuple #[.float .f32 (onlyN x), .bool (fin .f32 x)]) ∧ w' = w.drewN n := by
  cases h : fin .f32 x
  all_goals
    have HF := Lib.hid h
    go_enter Try.func62, Try.ntmps62
    go_wp2_with fail
    refine (s_l01Finite _ _).mono ?_
    rintro e w' ⟨n, rfl, rfl⟩
    rw [show fin .f32 x = _ from HF.out]
    go_wp2
    go_ret2
    exact ⟨_, by unfold onlyN; rw [h]; rfl, rfl⟩
def areaAt (a l : List Nat) (k : Nat) : Nat :=
  fop .mul .f32 (fop .mul .f32 (canon .f32 1056964608) (fop .add .f32 (canon .f32 (l.getD k 0)) (canon .f32 (l.getD (k + 1) 0)))) (fop .sub .f32 (canon .f32 (a.getD (k + 1) 0)) (canon .f32 (a.getD k 0)))
def area (a l : List Nat) : Nat → Nat
  | 0 => 0
  | k + 1 => fop .add .f32 (area a l k) (areaAt a l k)
def areaO (a l d : List Nat) : Bool := validP a l d && fin .f32 (area a l (a.length - 1))
def areaR (a l d : List Nat) : Nat := if validP a l d then onlyN (area a l (a.length - 1)) else 0
end Go.Proofs.Ytpmjikchlofebaa
