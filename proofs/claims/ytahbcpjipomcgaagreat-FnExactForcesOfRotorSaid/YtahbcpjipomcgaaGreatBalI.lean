/- BalanceOf: the program's side, whole. No statement is proved here. -/
import Derived.Test.YtahbcpjipomcgaaGreatBal
namespace Go.Proofs.YtahbcpjipomcgaaGreat
open Go Go.RowKit
def couB (wi sp p : Nat) : Bool := posi wi && (posi sp && fin .f32 p)
def balC (a l d s : List Nat) (n : Nat) (c : Int) (hub tip : Nat) (i : Int) (f wi sp p : Nat) : Bool := statR a l d s n c hub tip i && (flowB f && couB wi sp p)
def balO (a l d s : List Nat) (n : Nat) (c : Int) (hub tip : Nat) (i : Int) (f wi sp p : Nat) : Bool := balC a l d s n c hub tip i f wi sp p && balG a l d (floatOfInt .f32 c) tip (rad s i.toNat) (chd s i.toNat) (twi s i.toNat) f wi sp p
def balV (a l d s : List Nat) (n : Nat) (c : Int) (hub tip : Nat) (i : Int) (f wi sp p : Nat) : Nat := if balC a l d s n c hub tip i f wi sp p then balR a l d (floatOfInt .f32 c) tip (rad s i.toNat) (chd s i.toNat) (twi s i.toNat) f wi sp p else 0
theorem i_isCourse (wi sp p : Nat) (w : World) :
    Calls Tryz.prog 42 #[.agg #[.float .f32 wi, .float .f32 sp, .float .f32 p]] w fun e w' => e = .returned (.bool (couB wi sp p)) ∧ Below w.heap.size w w' := by
  have HB : ∀ o, Hid (Below w.heap.size w (w.alloc o)) := fun _ => Lib.hid ((Below.refl _ _).alloc (Nat.le_refl _) _)
  have HK : ∀ t, Hid (BlkL (w.alloc (.cells #[.float .f32 wi, .float .f32 sp, .float .f32 p] t)) w.heap.size [.float .f32 wi, .float .f32 sp, .float .f32 p]) := fun t => Lib.hid (blkL_at w #[.float .f32 wi, .float .f32 sp, .float .f32 p] t rfl)
  have c0 := fun t => ((HK t).out.2 0 _ rfl).1
  have c1 := fun t => ((HK t).out.2 1 _ rfl).1
  have c2 := fun t => ((HK t).out.2 2 _ rfl).1
  cases h1 : posi wi
  · have H1 := Lib.hid h1; clear h1
    go_enter Tryz.func42, Tryz.ntmps42
    go_wp2_with fail
    refine (i_isPositive _ _).mono ?_
    rintro e w' ⟨m1, rfl, rfl⟩
    rw [H1.out]
    go_wp2
    go_ret
    exact ⟨by unfold couB; rw [H1.out]; rfl, by have BX := (HB (.cells #[.float .f32 wi, .float .f32 sp, .float .f32 p] 62)).out; first | exact BX | exact below_draws BX _ | exact below_draws (below_draws BX _) _ | exact below_draws (below_draws (below_draws BX _) _) _⟩
  · cases h2 : posi sp
    · have H1 := Lib.hid h1; clear h1
      have H2 := Lib.hid h2; clear h2
      go_enter Tryz.func42, Tryz.ntmps42
      go_wp2_with fail
      refine (i_isPositive _ _).mono ?_
      rintro e w' ⟨m1, rfl, rfl⟩
      rw [H1.out]
      go_wp2_with fail
      refine (i_isPositive _ _).mono ?_
      rintro e w' ⟨m2, rfl, rfl⟩
      rw [H2.out]
      go_wp2
      go_ret
      exact ⟨by unfold couB; rw [H1.out, H2.out]; rfl, by have BX := (HB (.cells #[.float .f32 wi, .float .f32 sp, .float .f32 p] 62)).out; first | exact BX | exact below_draws BX _ | exact below_draws (below_draws BX _) _ | exact below_draws (below_draws (below_draws BX _) _) _⟩
    · have H1 := Lib.hid h1; clear h1
      have H2 := Lib.hid h2; clear h2
      go_enter Tryz.func42, Tryz.ntmps42
      go_wp2_with fail
      refine (i_isPositive _ _).mono ?_
      rintro e w' ⟨m1, rfl, rfl⟩
      rw [H1.out]
      go_wp2_with fail
      refine (i_isPositive _ _).mono ?_
      rintro e w' ⟨m2, rfl, rfl⟩
      rw [H2.out]
      go_wp2_with fail
      refine (i_IsFinite _ _).mono ?_
      rintro e w' ⟨m3, rfl, rfl⟩
      go_wp2
      go_ret
      exact ⟨by unfold couB; rw [H1.out, H2.out]; simp, by have BX := (HB (.cells #[.float .f32 wi, .float .f32 sp, .float .f32 p] 62)).out; first | exact BX | exact below_draws BX _ | exact below_draws (below_draws BX _) _ | exact below_draws (below_draws (below_draws BX _) _) _⟩
theorem i_balanceOn (x y z q tip : Nat) (A L D : Option Addr) (ca cl cd : Nat) (a l d : List Nat) (wi sp p : Nat) (w : World) :
    Calls Tryz.prog 100 #[.agg #[.float .f32 x, .float .f32 y, .float .f32 z, .slice A a.length ca, .slice L l.length cl, .slice D d.length cd, .float .f32 q, .float .f32 tip], .agg #[.float .f32 wi, .float .f32 sp, .float .f32 p]] w fun e w' => ∃ b1 c1, e = .returned (.func (.func 111) #[] #[.pointer (some ⟨b1, 0, none⟩), .pointer (some ⟨c1, 0, none⟩)]) ∧ BlkB w' b1 x y z A L D a l d ca cl cd q tip ∧ BlkL w' c1 [.float .f32 wi, .float .f32 sp, .float .f32 p] ∧ Below w.heap.size w w' := by
  have HB2 : ∀ o1 o2, Hid (Below w.heap.size w ((w.alloc o1).alloc o2)) := fun _ _ => Lib.hid (((Below.refl _ _).alloc (Nat.le_refl _) _).alloc (by simp) _)
  have HK0 : ∀ t o, Hid (BlkB ((w.alloc (.cells #[.float .f32 x, .float .f32 y, .float .f32 z, .slice A a.length ca, .slice L l.length cl, .slice D d.length cd, .float .f32 q, .float .f32 tip] t)).alloc o) w.heap.size x y z A L D a l d ca cl cd q tip) := fun t o => Lib.hid ((blkL_at w #[.float .f32 x, .float .f32 y, .float .f32 z, .slice A a.length ca, .slice L l.length cl, .slice D d.length cd, .float .f32 q, .float .f32 tip] t rfl).alloc o)
  have HK1 : ∀ o t, Hid (BlkL ((w.alloc o).alloc (.cells #[.float .f32 wi, .float .f32 sp, .float .f32 p] t)) (w.heap.size + 1) [.float .f32 wi, .float .f32 sp, .float .f32 p]) := fun o t => Lib.hid (blkL_at (w.alloc o) #[.float .f32 wi, .float .f32 sp, .float .f32 p] t (by simp))
  go_enter Tryz.func100, Tryz.ntmps100
  go_wp2
  go_ret
  exact ⟨_, _, rfl, (HK0 _ _).out, (HK1 _ _).out, (HB2 _ _).out⟩
end Go.Proofs.YtahbcpjipomcgaaGreat
