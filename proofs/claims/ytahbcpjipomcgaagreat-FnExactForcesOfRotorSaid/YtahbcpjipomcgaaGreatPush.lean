/- What lift and drag push and pull: both sides. No statement is proved here. -/
import Derived.Test.YtahbcpjipomcgaaGreatSolS
import Derived.Test.YtahbcpjipomcgaaGreatLiftI
import Derived.Test.YtahbcpjipomcgaaGreatAbs
import Derived.Test.YtahbcpjipomcgaaGreatNotFin
namespace Go.Proofs.YtahbcpjipomcgaaGreat
open Go Go.RowKit
theorem atO_canon (a l d m : List Nat) (x : Nat) : atO a l d m (canon .f32 x) = atO a l d m x := by
  cases h : isn .f32 x
  · rw [canon_of_not h]
  · unfold atO canSpan'; rw [fin_canon, fin_of_nan h]; simp
theorem atR_canon (a l d m : List Nat) (x : Nat) : atR a l d m (canon .f32 x) = atR a l d m x := by
  cases h : isn .f32 x
  · rw [canon_of_not h]
  · unfold atR canSpan'; rw [fin_canon, fin_of_nan h]; simp
/-- the angle at which air meets a blade of some twist -/
def angZ (z f p : Nat) : Nat := fop .sub .f32 (fop .sub .f32 (canon .f32 f) (canon .f32 z)) (canon .f32 p)
def cosC (f : Nat) : Nat := canon .f32 (sinT (fop .add .f32 (canon .f32 f) (canon .f32 1048576000)))
def pusN (a l d : List Nat) (z f p : Nat) : Nat := fop .add .f32 (fop .mul .f32 (atV a l (angZ z f p)) (cosC f)) (fop .mul .f32 (atV a d (angZ z f p)) (sinC f))
def pusT (a l d : List Nat) (z f p : Nat) : Nat := fop .sub .f32 (fop .mul .f32 (atV a l (angZ z f p)) (sinC f)) (fop .mul .f32 (atV a d (angZ z f p)) (cosC f))
/-- whether both numbers are told -/
def puG (a l d : List Nat) (z f p : Nat) : Bool := fin .f32 (angZ z f p) && (fin .f32 (pusN a l d z f p) && fin .f32 (pusT a l d z f p))
theorem puG_a {a l d : List Nat} {z f p : Nat} (h : fin .f32 (angZ z f p) = false) : puG a l d z f p = false := by unfold puG; rw [h]; rfl
theorem puG_l {a l d : List Nat} {z f p : Nat} (h : fin .f32 (atV a l (angZ z f p)) = false) : puG a l d z f p = false := by
  unfold puG pusN
  cases h1 : fin .f32 (fop .add .f32 (fop .mul .f32 (atV a l (angZ z f p)) (cosC f)) (fop .mul .f32 (atV a d (angZ z f p)) (sinC f)))
  · simp
  · have := (sum_fin h1).1; rw [mulL_not_fin h] at this; cases this
theorem puG_d {a l d : List Nat} {z f p : Nat} (h : fin .f32 (atV a d (angZ z f p)) = false) : puG a l d z f p = false := by
  unfold puG pusN
  cases h1 : fin .f32 (fop .add .f32 (fop .mul .f32 (atV a l (angZ z f p)) (cosC f)) (fop .mul .f32 (atV a d (angZ z f p)) (sinC f)))
  · simp
  · have := (sum_fin h1).2; rw [mulL_not_fin h] at this; cases this
def puR1 (a l d : List Nat) (z f p : Nat) : Nat := if puG a l d z f p then pusN a l d z f p else 0
def puR2 (a l d : List Nat) (z f p : Nat) : Nat := if puG a l d z f p then pusT a l d z f p else 0
def puC (a l d s : List Nat) (n : Nat) (c : Int) (hub tip : Nat) (i : Int) (f p : Nat) : Bool := statR a l d s n c hub tip i && (flowB f && fin .f32 p)
def puO (a l d s : List Nat) (n : Nat) (c : Int) (hub tip : Nat) (i : Int) (f p : Nat) : Bool := puC a l d s n c hub tip i f p && puG a l d (twi s i.toNat) f p
def puA (a l d s : List Nat) (n : Nat) (c : Int) (hub tip : Nat) (i : Int) (f p : Nat) : Nat := if puC a l d s n c hub tip i f p then puR1 a l d (twi s i.toNat) f p else 0
def puB (a l d s : List Nat) (n : Nat) (c : Int) (hub tip : Nat) (i : Int) (f p : Nat) : Nat := if puC a l d s n c hub tip i f p then puR2 a l d (twi s i.toNat) f p else 0
/-- two numbers, if both are finite -/
def both1 (x y : Nat) : Nat := if fin .f32 x && fin .f32 y then x else 0
def both2 (x y : Nat) : Nat := if fin .f32 x && fin .f32 y then y else 0
theorem i_bothFinite (x y X Y : Nat) (w : World) (hx : canon .f32 x = X) (hy : canon .f32 y = Y) :
    Calls Tryz.prog 79 #[.float .f32 x, .float .f32 y] w fun e w' => ∃ r t n, e = .returned (.tuple #[.float .f32 r, .float .f32 t, .bool (fin .f32 X && fin .f32 Y)]) ∧ canon .f32 r = both1 X Y ∧ canon .f32 t = both2 X Y ∧ w' = w.drewN n := by
  subst hx hy
  unfold both1 both2
  rw [fin_canon, fin_canon]
  cases h : fin .f32 x
  · go_enter Tryz.func79, Tryz.ntmps79
    go_wp2_with fail
    refine (i_IsFinite _ _).mono ?_
    rintro e w' ⟨n, rfl, rfl⟩
    rw [h]
    go_wp2
    refine bodyPost_ret (results_tmp3 rfl _ _ _) rfl ?_
    first | exact ⟨_, _, _, rfl, canon_zero, canon_zero, rfl⟩ | exact ⟨_, _, rfl, canon_zero, canon_zero, _, rfl⟩
  · cases h2 : fin .f32 y
    all_goals
      go_enter Tryz.func79, Tryz.ntmps79
      go_wp2_with fail
      refine (i_IsFinite _ _).mono ?_
      rintro e w' ⟨n, rfl, rfl⟩
      rw [h]
      go_wp2_with fail
      refine (i_IsFinite _ _).mono ?_
      rintro e w' ⟨n2, rfl, rfl⟩
      rw [h2]
      go_wp2
      refine bodyPost_ret (results_tmp3 rfl _ _ _) rfl ?_
    · first | exact ⟨_, _, _, rfl, canon_zero, canon_zero, rfl⟩ | exact ⟨_, _, rfl, canon_zero, canon_zero, _, rfl⟩
    · first | exact ⟨_, _, _, rfl, rfl, rfl, rfl⟩ | exact ⟨_, _, rfl, rfl, rfl, _, rfl⟩
theorem s_l03Two (x y X Y : Nat) (w : World) (hx : canon .f32 x = X) (hy : canon .f32 y = Y) :
    Calls Tryz.prog 94 #[.float .f32 x, .float .f32 y] w fun e w' => ∃ r t n, e = .returned (.tuple #[.float .f32 r, .float .f32 t, .bool (fin .f32 X && fin .f32 Y)]) ∧ canon .f32 r = both1 X Y ∧ canon .f32 t = both2 X Y ∧ w' = w.drewN n := by
  subst hx hy
  unfold both1 both2
  rw [fin_canon, fin_canon]
  cases h : fin .f32 x
  · go_enter Tryz.func94, Tryz.ntmps94
    go_wp2_with fail
    refine (s_l01Finite _ _).mono ?_
    rintro e w' ⟨n, rfl, rfl⟩
    rw [h]
    go_wp2
    refine bodyPost_ret (results_tmp3 rfl _ _ _) rfl ?_
    first | exact ⟨_, _, _, rfl, canon_zero, canon_zero, rfl⟩ | exact ⟨_, _, rfl, canon_zero, canon_zero, _, rfl⟩
  · cases h2 : fin .f32 y
    all_goals
      go_enter Tryz.func94, Tryz.ntmps94
      go_wp2_with fail
      refine (s_l01Finite _ _).mono ?_
      rintro e w' ⟨n, rfl, rfl⟩
      rw [h]
      go_wp2_with fail
      refine (s_l01Finite _ _).mono ?_
      rintro e w' ⟨n2, rfl, rfl⟩
      rw [h2]
      go_wp2
      refine bodyPost_ret (results_tmp3 rfl _ _ _) rfl ?_
    · first | exact ⟨_, _, _, rfl, canon_zero, canon_zero, rfl⟩ | exact ⟨_, _, rfl, canon_zero, canon_zero, _, rfl⟩
    · first | exact ⟨_, _, _, rfl, rfl, rfl, rfl⟩ | exact ⟨_, _, rfl, rfl, rfl, _, rfl⟩
set_option maxHeartbeats 4000000 in
set_option maxRecDepth 100000 in
theorem i_pushes (x y z q tip : Nat) (A L D : Option Addr) (ca cl cd : Nat) (a l d : List Nat) (f p : Nat) (w : World) (h : Pf w A L D a l d) (hn : Few a l d) (hv : validP a l d = true) :
    Calls Tryz.prog 112 #[.agg #[.float .f32 x, .float .f32 y, .float .f32 z, .slice A a.length ca, .slice L l.length cl, .slice D d.length cd, .float .f32 q, .float .f32 tip], .float .f32 f, .float .f32 p] w fun e w' => ∃ r t, e = .returned (.tuple #[.float .f32 r, .float .f32 t, .bool (puG a l d z f p)]) ∧ canon .f32 r = puR1 a l d z f p ∧ canon .f32 t = puR2 a l d z f p ∧ Below w.heap.size w w' := by
  have HB : ∀ o1 m, Hid (Below w.heap.size w ((w.alloc o1).drewN m)) := fun _ _ => Lib.hid (below_draws ((Below.refl _ _).alloc (Nat.le_refl _) _) _)
  have HP := Lib.hid h; clear h
  have HN := Lib.hid hn; clear hn
  have HK : ∀ t m, Hid (BlkB ((w.alloc (.cells #[.float .f32 x, .float .f32 y, .float .f32 z, .slice A a.length ca, .slice L l.length cl, .slice D d.length cd, .float .f32 q, .float .f32 tip] t)).drewN m) w.heap.size x y z A L D a l d ca cl cd q tip) := fun t m => Lib.hid (BlkL.draws (blkL_at w #[_, _, _, _, _, _, _, _] t rfl) m)
  have HO : ∀ m, Hid (atO a l d m (angZ z f p) = (fin .f32 (angZ z f p) && fin .f32 (atV a m (angZ z f p)))) := fun m => Lib.hid (by unfold atO canSpan'; rw [hv, Bool.true_and])
  have HR : fin .f32 (angZ z f p) = true → ∀ m, fin .f32 (atV a m (angZ z f p)) = true → atR a l d m (angZ z f p) = atV a m (angZ z f p) := fun h1 m h2 => by unfold atR canSpan' onlyN; rw [hv, h1, h2]; rfl
  have HRH := Lib.hid HR; clear HR
  clear hv
  cases h1 : (fin .f32 (angZ z f p) && fin .f32 (atV a l (angZ z f p)))
  · have HG : Hid (puG a l d z f p = false) := Lib.hid (by
      cases g : fin .f32 (angZ z f p)
      · exact puG_a g
      · rw [g, Bool.true_and] at h1; exact puG_l h1)
    have H1 := Lib.hid h1; clear h1
    go_enter Tryz.func112, Tryz.ntmps112
    go_wp2_with fail
    refine (i_LiftAt A L D ca cl cd a l d _ _ (HP.out.below (HB _ _).out) HN.out).mono ?_
    rintro e w1 ⟨r1, rfl, -, b1⟩
    rw [show atO a l d l _ = false from by rw [← atO_canon, canonF (canonF rfl rfl) rfl]; exact (HO l).out.trans H1.out]
    have K1 : Hid (BlkB w1 w.heap.size x y z A L D a l d ca cl cd q tip) := Lib.hid (BlkL.below (HK _ _).out b1)
    have B1 : Hid (Below w.heap.size w w1) := Lib.hid (below_of (HB _ _).out (HB _ _).out.size b1)
    clear b1
    obtain ⟨k0, k1, k2, k3, k4, k5, k6, k7⟩ := K1.out.limbs
    go_wp2_with fail
    refine (i_DragAt A L D ca cl cd a l d _ _ (HP.out.below B1.out) HN.out).mono ?_
    rintro e w2 ⟨r2, rfl, -, b2⟩
    have B2 : Hid (Below w.heap.size w w2) := Lib.hid (below_of B1.out B1.out.size b2)
    clear b2 k0 k1 k2 k3 k4 k5 k6 k7
    go_wp2
    refine bodyPost_ret (results_tmp3 rfl _ _ _) rfl ?_
    exact ⟨_, _, by rw [HG.out]; rfl, by unfold puR1; rw [HG.out]; exact canon_zero, by unfold puR2; rw [HG.out]; exact canon_zero, B2.out⟩
  · rw [Bool.and_eq_true] at h1
    obtain ⟨ha, hl⟩ := h1
    have HL := Lib.hid hl
    have HA := Lib.hid ha; clear ha hl
    have H1 : Hid ((fin .f32 (angZ z f p) && fin .f32 (atV a l (angZ z f p))) = true) := Lib.hid (by rw [HA.out, HL.out]; rfl)
    cases h2 : fin .f32 (atV a d (angZ z f p))
    · have HG : Hid (puG a l d z f p = false) := Lib.hid (puG_d h2)
      have H2 : Hid ((fin .f32 (angZ z f p) && fin .f32 (atV a d (angZ z f p))) = false) := Lib.hid (by rw [h2]; simp)
      clear h2
      go_enter Tryz.func112, Tryz.ntmps112
      go_wp2_with fail
      refine (i_LiftAt A L D ca cl cd a l d _ _ (HP.out.below (HB _ _).out) HN.out).mono ?_
      rintro e w1 ⟨r1, rfl, -, b1⟩
      rw [show atO a l d l _ = true from by rw [← atO_canon, canonF (canonF rfl rfl) rfl]; exact (HO l).out.trans H1.out]
      have K1 : Hid (BlkB w1 w.heap.size x y z A L D a l d ca cl cd q tip) := Lib.hid (BlkL.below (HK _ _).out b1)
      have B1 : Hid (Below w.heap.size w w1) := Lib.hid (below_of (HB _ _).out (HB _ _).out.size b1)
      clear b1
      obtain ⟨k0, k1, k2, k3, k4, k5, k6, k7⟩ := K1.out.limbs
      go_wp2_with fail
      refine (i_DragAt A L D ca cl cd a l d _ _ (HP.out.below B1.out) HN.out).mono ?_
      rintro e w2 ⟨r2, rfl, -, b2⟩
      rw [show atO a l d d _ = false from by rw [← atO_canon, canonF (canonF rfl rfl) rfl]; exact (HO d).out.trans H2.out]
      have B2 : Hid (Below w.heap.size w w2) := Lib.hid (below_of B1.out B1.out.size b2)
      clear b2 k0 k1 k2 k3 k4 k5 k6 k7
      go_wp2
      refine bodyPost_ret (results_tmp3 rfl _ _ _) rfl ?_
      exact ⟨_, _, by rw [HG.out]; rfl, by unfold puR1; rw [HG.out]; exact canon_zero, by unfold puR2; rw [HG.out]; exact canon_zero, B2.out⟩
    · have HG : Hid (puG a l d z f p = (fin .f32 (pusN a l d z f p) && fin .f32 (pusT a l d z f p))) := Lib.hid (by unfold puG; rw [HA.out, Bool.true_and])
      have HRL : Hid (atR a l d l (angZ z f p) = atV a l (angZ z f p)) := Lib.hid (HRH.out HA.out l HL.out)
      have HRD : Hid (atR a l d d (angZ z f p) = atV a d (angZ z f p)) := Lib.hid (HRH.out HA.out d h2)
      have H2 : Hid ((fin .f32 (angZ z f p) && fin .f32 (atV a d (angZ z f p))) = true) := Lib.hid (by rw [h2, HA.out]; rfl)
      clear h2
      go_enter Tryz.func112, Tryz.ntmps112
      go_wp2_with fail
      refine (i_LiftAt A L D ca cl cd a l d _ _ (HP.out.below (HB _ _).out) HN.out).mono ?_
      rintro e w1 ⟨r1, rfl, c1, b1⟩
      rw [show atO a l d l _ = true from by rw [← atO_canon, canonF (canonF rfl rfl) rfl]; exact (HO l).out.trans H1.out]
      have C1 : Hid (canon .f32 r1 = atV a l (angZ z f p)) := Lib.hid (by rw [c1, ← atR_canon, canonF (canonF rfl rfl) rfl]; exact HRL.out)
      have K1 : Hid (BlkB w1 w.heap.size x y z A L D a l d ca cl cd q tip) := Lib.hid (BlkL.below (HK _ _).out b1)
      have B1 : Hid (Below w.heap.size w w1) := Lib.hid (below_of (HB _ _).out (HB _ _).out.size b1)
      clear b1 c1
      obtain ⟨k0, k1, k2, k3, k4, k5, k6, k7⟩ := K1.out.limbs
      go_wp2_with fail
      refine (i_DragAt A L D ca cl cd a l d _ _ (HP.out.below B1.out) HN.out).mono ?_
      rintro e w2 ⟨r2, rfl, c2, b2⟩
      rw [show atO a l d d _ = true from by rw [← atO_canon, canonF (canonF rfl rfl) rfl]; exact (HO d).out.trans H2.out]
      have C2 : Hid (canon .f32 r2 = atV a d (angZ z f p)) := Lib.hid (by rw [c2, ← atR_canon, canonF (canonF rfl rfl) rfl]; exact HRD.out)
      have B2 : Hid (Below w.heap.size w w2) := Lib.hid (below_of B1.out B1.out.size b2)
      clear b2 c2 k0 k1 k2 k3 k4 k5 k6 k7
      go_wp2_with fail
      refine (i_SineTurns _ _).mono ?_
      rintro e w' ⟨r3, m3, rfl, c3, rfl⟩
      have C3 : Hid (canon .f32 r3 = sinC f) := Lib.hid c3
      clear c3
      go_wp2_with fail
      refine (i_SineTurns _ _).mono ?_
      rintro e w' ⟨r4, m4, rfl, c4, rfl⟩
      have C4 : Hid (canon .f32 r4 = cosC f) := Lib.hid (by rw [c4, canonF rfl rfl]; rfl)
      clear c4
      go_wp2_with fail
      refine (i_mulNumbers _ _ _).mono ?_
      rintro e w' ⟨rfl, rfl⟩
      go_wp2_with fail
      refine (i_mulNumbers _ _ _).mono ?_
      rintro e w' ⟨rfl, rfl⟩
      go_wp2_with fail
      refine (i_mulNumbers _ _ _).mono ?_
      rintro e w' ⟨rfl, rfl⟩
      go_wp2_with fail
      refine (i_mulNumbers _ _ _).mono ?_
      rintro e w' ⟨rfl, rfl⟩
      go_wp2_with fail
      refine (i_bothFinite _ _ (pusN a l d z f p) (pusT a l d z f p) _ (canonF (canonF C1.out C4.out) (canonF C2.out C3.out)) (canonF (canonF C1.out C3.out) (canonF C2.out C4.out))).mono ?_
      rintro e w' ⟨r5, r6, m5, rfl, c5, c6, rfl⟩
      have C5 := Lib.hid c5; clear c5
      have C6 := Lib.hid c6; clear c6
      go_wp2
      refine bodyPost_ret (results_tmp3 rfl _ _ _) rfl ?_
      exact ⟨_, _, by rw [HG.out]; rfl, by rw [C5.out]; unfold puR1 both1; rw [HG.out], by rw [C6.out]; unfold puR2 both2; rw [HG.out], by first | exact B2.out | exact below_draws B2.out _ | exact below_draws (below_draws B2.out _) _ | exact below_draws (below_draws (below_draws B2.out _) _) _ | exact below_draws (below_draws (below_draws (below_draws B2.out _) _) _) _⟩
end Go.Proofs.YtahbcpjipomcgaaGreat
