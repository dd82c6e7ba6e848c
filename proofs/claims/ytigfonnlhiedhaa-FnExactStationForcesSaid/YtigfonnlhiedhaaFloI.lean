/- FlowAt: the program's side. No statement is proved here. -/
import Derived.Test.YtigfonnlhiedhaaFlo
namespace Go.Proofs.Ytigfonnlhiedhaa
open Go Go.RowKit
def floC (a l d s : List Nat) (n : Nat) (c : Int) (hub tip : Nat) (i : Int) (wi sp p : Nat) : Bool := statR a l d s n c hub tip i && couB wi sp p
def flSt (a l d s : List Nat) (c : Int) (tip k wi sp p : Nat) : Option (Nat × Nat) := flowS a l d (floatOfInt .f32 c) tip (rad s k) (chd s k) (twi s k) wi sp p 24
def floO (a l d s : List Nat) (n : Nat) (c : Int) (hub tip : Nat) (i : Int) (wi sp p : Nat) : Bool := floC a l d s n c hub tip i wi sp p && (flSt a l d s c tip i.toNat wi sp p).isSome
def floV (a l d s : List Nat) (n : Nat) (c : Int) (hub tip : Nat) (i : Int) (wi sp p : Nat) : Nat := if floC a l d s n c hub tip i wi sp p then flV (flSt a l d s c tip i.toNat wi sp p) else 0
set_option maxHeartbeats 4000000 in
set_option maxRecDepth 100000 in
theorem i_FlowAt (A L D S : Option Addr) (ca cl cd n cs : Nat) (c : Int) (hub tip : Nat) (a l d s : List Nat) (i : Int) (wi sp p : Nat) (w : World) (h : Rt w A L D S a l d s) (hn : FewR a l d s n) :
    Calls Try.prog 32 #[.agg #[.slice A a.length ca, .slice L l.length cl, .slice D d.length cd, .slice S n cs, .int .i64 c, .float .f32 hub, .float .f32 tip], .int .i64 i, .float .f32 wi, .float .f32 sp, .float .f32 p] w fun e w' => ∃ r, e = .returned (.tuple #[.float .f32 r, .bool (floO a l d s n c hub tip i wi sp p)]) ∧ canon .f32 r = canon .f32 (floV a l d s n c hub tip i wi sp p) ∧ Below w.heap.size w w' := by
  have HB : ∀ o1, Hid (Below w.heap.size w (w.alloc o1)) := fun _ => Lib.hid ((Below.refl _ _).alloc (Nat.le_refl _) _)
  have HR : ∀ o1, Hid (Rt (w.alloc o1) A L D S a l d s) := fun o1 => Lib.hid (h.below (HB o1).out)
  have HN := Lib.hid hn; clear hn
  have HP := Lib.hid h.1; clear h
  cases hst : statR a l d s n c hub tip i
  · have HC : Hid (floC a l d s n c hub tip i wi sp p = false) := Lib.hid (by unfold floC; rw [hst]; rfl)
    have HST := Lib.hid hst; clear hst
    go_enter Try.func32, Try.ntmps32
    go_wp2_with fail
    refine (i_bladeAt_no A L D S ca cl cd n cs c hub tip a l d s i _ (HR _).out HN.out HST.out).mono ?_
    rintro e w1 ⟨rfl, b1⟩
    have B1 : Hid (Below w.heap.size w w1) := Lib.hid (below_of (HB _).out (HB _).out.size b1)
    have B1a : ∀ o1 o2, Hid (Below w.heap.size w ((w1.alloc o1).alloc o2)) := fun _ _ => Lib.hid ((B1.out.alloc B1.out.size _).alloc (B1.out.alloc B1.out.size _).size _)
    clear b1
    go_wp2
    refine bodyPost_ret (results_tmp2 rfl _ _ _) rfl ?_
    exact ⟨_, by unfold floO; rw [HC.out]; rfl, by unfold floV; rw [HC.out]; rfl, (B1a _ _).out⟩
  · obtain ⟨k, rfl, -, hv⟩ := statR_at hst
    have HV : Hid (validP a l d = true) := Lib.hid (by unfold validR at hv; rw [Bool.and_eq_true] at hv; exact hv.1)
    clear hv
    cases hc : couB wi sp p
    all_goals
      have HC : Hid (floC a l d s n c hub tip k wi sp p = _) := Lib.hid (by unfold floC; rw [hst, hc])
      have HST := Lib.hid hst; clear hst
      have HCO := Lib.hid hc; clear hc
      go_enter Try.func32, Try.ntmps32
      go_wp2_with fail
      refine (i_bladeAt A L D S ca cl cd n cs c hub tip a l d s k _ (HR _).out HN.out HST.out).mono ?_
      rintro e w1 ⟨rfl, b1⟩
      have B1 : Hid (Below w.heap.size w w1) := Lib.hid (below_of (HB _).out (HB _).out.size b1)
      have B1a : ∀ o1 o2, Hid (Below w.heap.size w ((w1.alloc o1).alloc o2)) := fun _ _ => Lib.hid ((B1.out.alloc B1.out.size _).alloc (B1.out.alloc B1.out.size _).size _)
      have HX : ∀ t o, Hid (BlkL ((w1.alloc (.cells #[.float .f32 (rad s k), .float .f32 (chd s k), .float .f32 (twi s k), .slice A a.length ca, .slice L l.length cl, .slice D d.length cd, .float .f32 (floatOfInt .f32 c), .float .f32 tip] t)).alloc o) w1.heap.size [.float .f32 (rad s k), .float .f32 (chd s k), .float .f32 (twi s k), .slice A a.length ca, .slice L l.length cl, .slice D d.length cd, .float .f32 (floatOfInt .f32 c), .float .f32 tip]) := fun t o => Lib.hid ((blkL_at w1 #[.float .f32 (rad s k), .float .f32 (chd s k), .float .f32 (twi s k), .slice A a.length ca, .slice L l.length cl, .slice D d.length cd, .float .f32 (floatOfInt .f32 c), .float .f32 tip] t rfl).alloc o)
      have HY : ∀ o t, Hid (BlkL ((w1.alloc o).alloc (.cells #[.float .f32 wi, .float .f32 sp, .float .f32 p] t)) (w1.heap.size + 1) [.float .f32 wi, .float .f32 sp, .float .f32 p]) := fun o t => Lib.hid (blkL_at (w1.alloc o) #[.float .f32 wi, .float .f32 sp, .float .f32 p] t (by simp))
      clear b1
      go_wp2_with fail
      refine (i_isCourse _ _ _ _).mono ?_
      rintro e w2 ⟨rfl, b2⟩
      rw [HCO.out]
      have B2 : Hid (Below w.heap.size w w2) := Lib.hid (below_of (B1a _ _).out (B1a _ _).out.size b2)
      have HX2 := Lib.hid (((HX _ _).out).below b2)
      have HY2 := Lib.hid (((HY _ _).out).below b2)
      clear b2
    · go_wp2
      refine bodyPost_ret (results_tmp2 rfl _ _ _) rfl ?_
      exact ⟨_, by unfold floO; rw [HC.out]; rfl, by unfold floV; rw [HC.out]; rfl, B2.out⟩
    · have k0 := (show BlkB w2 w1.heap.size (rad s k) (chd s k) (twi s k) A L D a l d ca cl cd (floatOfInt .f32 c) tip from HX2.out).limbs
      obtain ⟨k0, k1, k2, k3, k4, k5, k6, k7⟩ := k0
      have c0 := (HY2.out.2 0 _ rfl).1
      have c1 := (HY2.out.2 1 _ rfl).1
      have c2 := (HY2.out.2 2 _ rfl).1
      go_wp2_with fail
      refine (i_balanceOn _ _ _ _ _ A L D ca cl cd a l d wi sp p _).mono ?_
      rintro e w3 ⟨p1, p2, rfl, hb1, hc1, b3⟩
      have B3 : Hid (Below w.heap.size w w3) := Lib.hid (below_of B2.out B2.out.size b3)
      have HB3 := Lib.hid hb1
      have HC3 := Lib.hid hc1
      clear b3 hb1 hc1 k0 k1 k2 k3 k4 k5 k6 k7 c0 c1 c2
      go_wp2_with fail
      refine (i_flowByHalves _ _ _ _ _ _ _ A L D ca cl cd a l d wi sp p _ (HP.out.below B3.out) HN.out.few HV.out HB3.out HC3.out).mono ?_
      rintro e w4 ⟨rfl, b4⟩
      have B4 : Hid (Below w.heap.size w w4) := Lib.hid (below_of B3.out B3.out.size b4)
      clear b4
      go_wp2
      refine bodyPost_ret (results_tmp2 rfl _ _ _) rfl ?_
      exact ⟨_, by unfold floO; rw [HC.out]; rfl, by unfold floV; rw [HC.out]; rfl, B4.out⟩
end Go.Proofs.Ytigfonnlhiedhaa
