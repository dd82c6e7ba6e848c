/- Lifts and drags at angles: the specification's side. No statement is proved here. -/
import Derived.Test.YtigfonnlhiedhacSpanS
namespace Go.Proofs.Ytigfonnlhiedhac
open Go Go.RowKit

/-- the number of a list at an angle -/
def atV (a m : List Nat) (x : Nat) : Nat :=
  fop .add .f32 (canon .f32 (m.getD (spI a (spT' a x)) 0)) (fop .mul .f32 (canon .f32 (spF (spLo a (spT' a x)) (spHi a (spT' a x)) (wrapT x))) (fop .sub .f32 (canon .f32 (m.getD (spJ a (spT' a x)) 0)) (canon .f32 (m.getD (spI a (spT' a x)) 0))))
theorem spI_lt {a : List Nat} {x : Nat} (h : 2 ≤ a.length) : spI a (spT' a x) < a.length := by
  have := spC_le a (wrapT x) a.length
  unfold spI spT'
  split <;> omega
theorem spJ_lt {a : List Nat} {x : Nat} (h : 2 ≤ a.length) : spJ a (spT' a x) < a.length := by
  have := spC_le a (wrapT x) a.length
  unfold spJ spT'
  split
  · omega
  · split <;> omega
theorem can_sized {a l d : List Nat} {x : Nat} (h : canSpan' a l d x = true) : sized a l d := by
  unfold canSpan' at h; rw [Bool.and_eq_true] at h; exact sized_of h.1
theorem s_l02Can (A L D : Option Addr) (ca cl cd : Nat) (a l d : List Nat) (x B : Nat) (w : World) (h : Pf w A L D a l d) (hk : Blk3 w B (.slice A a.length ca) (.slice L l.length cl) (.slice D d.length cd)) (hn : Few a l d) :
    Calls Try.prog 80 #[.pointer (some ⟨B, 0, none⟩), .float .f32 x] w fun e w' => ∃ n, e = .returned (.bool (canSpan' a l d x)) ∧ w' = w.drewN n := by
  have HI := Lib.hid (s_l02Is A L D ca cl cd a l d B w h hk hn)
  clear h hk hn
  cases hv : validP a l d
  all_goals
    have HV := Lib.hid hv; clear hv
    go_enter Try.func80, Try.ntmps80
    go_wp2_with fail
    refine HI.out.mono ?_
    rintro e w' ⟨n, rfl, rfl⟩
    rw [show validP a l d = _ from HV.out]
  · go_wp2
    go_ret
    exact ⟨_, by unfold canSpan'; rw [HV.out]; rfl, rfl⟩
  · go_wp2_with fail
    refine (s_l01Finite _ _).mono ?_
    rintro e w' ⟨m, rfl, rfl⟩
    go_wp2
    go_ret
    exact ⟨_, by unfold canSpan'; rw [HV.out]; rfl, rfl⟩
def atO (a l d m : List Nat) (x : Nat) : Bool := canSpan' a l d x && fin .f32 (atV a m x)
def atR (a l d m : List Nat) (x : Nat) : Nat := if canSpan' a l d x then onlyN (atV a m x) else 0
end Go.Proofs.Ytigfonnlhiedhac
