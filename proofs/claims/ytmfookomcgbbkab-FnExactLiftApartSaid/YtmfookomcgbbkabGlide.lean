/- Slopes, glides, and lifts of air that is apart. No statement is proved here. -/
import Derived.Test.YtmfookomcgbbkabLiftI
namespace Go.Proofs.Ytmfookomcgbbkab
open Go Go.RowKit

/-- a product with what is not finite is not finite -/
theorem mul_not_fin {k : FloatKind} {x y : Nat} (hx : fin k x = false) : fin k (fop .mul k x y) = false := by
  unfold fop
  rw [fin_canon]
  have hq : fin k (qnan k) = false := fin_of_nan (isn_qnan k)
  have hinf : ∀ s, fin k (k.encode (.infinity s)) = false := by intro s; cases k <;> cases s <;> decide +kernel
  have d1 : k.format.read x = k.decode x := rfl
  have d2 : k.format.read y = k.decode y := rfl
  unfold floatBits Ieee.Format.mul
  rw [d1, d2]
  cases h1 : k.decode x with
  | number s m i => unfold fin at hx; rw [h1] at hx; cases hx
  | nan s f => exact hq
  | infinity s =>
    cases h2 : k.decode y with
    | nan t f => exact hq
    | infinity t => exact hinf _
    | number t n j =>
      simp only [Ieee.Datum.product]
      by_cases hn : n = 0
      · rw [if_pos hn]; exact hq
      · rw [if_neg hn]; exact hinf _
theorem quo_zero {k : FloatKind} {x y : Nat} (hy : k.format.order y 0 = some .eq) : fin k (fop .quo k x y) = false := by
  have hq : fin k (qnan k) = false := fin_of_nan (isn_qnan k)
  have hinf : ∀ s, fin k (k.encode (.infinity s)) = false := by intro s; cases k <;> cases s <;> decide +kernel
  have d0 : ∃ e, k.decode 0 = .number false 0 e := by
    cases k
    · exact ⟨-149, by decide +kernel⟩
    · exact ⟨-1074, by decide +kernel⟩
  obtain ⟨e0, d0⟩ := d0
  have d2 : k.format.read y = k.decode y := rfl
  have d1 : k.format.read x = k.decode x := rfl
  have d3 : k.format.read 0 = .number false 0 e0 := d0
  unfold fop
  rw [fin_canon]
  unfold floatBits Ieee.Format.div
  rw [d1, d2]
  unfold Ieee.Format.order at hy
  rw [d2, d3] at hy
  cases h2 : k.decode y with
  | nan t f => rw [h2] at hy; cases hy
  | infinity t => rw [h2] at hy; cases t <;> cases hy
  | number t n j =>
    have hn : n = 0 := by
      have d2' : k.decode y = .number t n j := h2
      have := order_numbers d2' d0
      unfold Ieee.Format.order at this
      rw [d2, d3] at this
      rw [h2] at hy this
      rw [hy] at this
      have h3 := Int.compare_eq_eq.1 (Option.some.inj this).symm
      have h4 : Ieee.signed false 0 (e0 - min j e0).toNat = 0 := by simp [Ieee.signed]
      rw [h4] at h3
      unfold Ieee.signed at h3
      rw [Nat.shiftLeft_eq] at h3
      have hp := Nat.two_pow_pos (j - min j e0).toNat
      cases t
      · simp only [Bool.false_eq_true, if_false] at h3
        have : n * 2 ^ (j - min j e0).toNat = 0 := by omega
        rcases Nat.mul_eq_zero.1 this with h | h
        · exact h
        · omega
      · simp only [if_true] at h3
        have : n * 2 ^ (j - min j e0).toNat = 0 := by omega
        rcases Nat.mul_eq_zero.1 this with h | h
        · exact h
        · omega
    subst hn
    cases h1 : k.decode x with
    | nan s f => exact hq
    | infinity s => simp only [Ieee.Datum.quotient]; exact hinf _
    | number s m i =>
      simp only [Ieee.Datum.quotient, if_true]
      by_cases hm : m = 0
      · rw [if_pos hm]; exact hq
      · rw [if_neg hm]; exact hinf _

/-! ## glides -/
def glV (a l d : List Nat) (x : Nat) : Nat := fop .quo .f32 (atV a l x) (atV a d x)
def glC (a l d : List Nat) (x : Nat) : Bool := canSpan' a l d x && (fin .f32 (atV a l x) && fin .f32 (atV a d x))
def glO (a l d : List Nat) (x : Nat) : Bool := glC a l d x && fin .f32 (glV a l d x)
def glR (a l d : List Nat) (x : Nat) : Nat := if glC a l d x then onlyN (glV a l d x) else 0
theorem canon_atV (a m : List Nat) (x : Nat) : canon .f32 (atV a m x) = atV a m x := canon_fop ..
set_option maxHeartbeats 4000000 in
theorem i_GlideAt (A L D : Option Addr) (ca cl cd : Nat) (a l d : List Nat) (x : Nat) (w : World) (h : Pf w A L D a l d) (hn : Few a l d) :
    Calls Try.prog 25 #[.agg #[.slice A a.length ca, .slice L l.length cl, .slice D d.length cd], .float .f32 x] w fun e w' => ∃ r, e = .returned (.tuple #[.float .f32 r, .bool (glO a l d x)]) ∧ canon .f32 r = glR a l d x ∧ Below w.heap.size w w' := by
  have HP := Lib.hid h; clear h
  have HN := Lib.hid hn; clear hn
  have HB : ∀ o1, Hid (Below w.heap.size w (w.alloc o1)) := fun _ => Lib.hid ((Below.refl _ _).alloc (Nat.le_refl _) _)
  cases g1 : atO a l d l x <;> cases g2 : atO a l d d x
  all_goals
    have G1 := Lib.hid g1
    have G2 := Lib.hid g2
    clear g1 g2
    go_enter Try.func25, Try.ntmps25
    go_wp2_with fail
    refine (i_LiftAt A L D ca cl cd a l d x _ (HP.out.below (HB _).out) HN.out).mono ?_
    rintro e w1 ⟨r1, rfl, h1, b1⟩
    have K1 : Hid (Blk3 w1 w.heap.size _ _ _) := Lib.hid ((blk3_new w _ _ _ _).below b1)
    have B1 : Hid (Below w.heap.size w w1) := Lib.hid (below_of (HB _).out (by simp) b1)
    have H1 := Lib.hid h1
    clear b1 h1
    rw [G1.out]
    obtain ⟨-, ⟨k0, k1, k2⟩, -, -, -⟩ := K1.out
    go_wp2_with fail
    refine (i_DragAt A L D ca cl cd a l d x _ (HP.out.below B1.out) HN.out).mono ?_
    rintro e w2 ⟨r2, rfl, h2, b2⟩
    have B2 : Hid (Below w.heap.size w w2) := Lib.hid (below_of B1.out B1.out.size b2)
    have H2 := Lib.hid h2
    clear b2 h2 k0 k1 k2
    rw [G2.out]
  · have HC : Hid (glC a l d x = false) := Lib.hid (by have := G1.out; unfold atO at this; unfold glC; cases hc : canSpan' a l d x <;> rw [hc] at this <;> simp_all)
    go_wp2
    go_ret2
    exact ⟨_, by unfold glO; rw [HC.out]; rfl, by unfold glR; rw [HC.out]; exact canon_zero, B2.out⟩
  · have HC : Hid (glC a l d x = false) := Lib.hid (by have := G1.out; unfold atO at this; unfold glC; cases hc : canSpan' a l d x <;> rw [hc] at this <;> simp_all)
    go_wp2
    go_ret2
    exact ⟨_, by unfold glO; rw [HC.out]; rfl, by unfold glR; rw [HC.out]; exact canon_zero, B2.out⟩
  · have HC : Hid (glC a l d x = false) := Lib.hid (by have := G2.out; unfold atO at this; unfold glC; cases hc : canSpan' a l d x <;> rw [hc] at this <;> simp_all)
    go_wp2
    go_ret2
    exact ⟨_, by unfold glO; rw [HC.out]; rfl, by unfold glR; rw [HC.out]; exact canon_zero, B2.out⟩
  · have hg1 := G1.out
    have hg2 := G2.out
    unfold atO at hg1 hg2
    rw [Bool.and_eq_true] at hg1 hg2
    have HC : Hid (glC a l d x = true) := Lib.hid (by unfold glC; rw [hg1.1, hg1.2, hg2.2]; rfl)
    have H1' : Hid (canon .f32 r1 = atV a l x) := Lib.hid (by rw [H1.out]; unfold atR onlyN; rw [hg1.1, hg1.2]; rfl)
    have H2' : Hid (canon .f32 r2 = atV a d x) := Lib.hid (by rw [H2.out]; unfold atR onlyN; rw [hg2.1, hg2.2]; rfl)
    clear hg1 hg2
    go_wp2_with fail
    refine (i_onlyFinite _ _).mono ?_
    rintro e w' ⟨q, rfl, rfl⟩
    go_wp2
    go_ret2
    exact ⟨_, by unfold glO; rw [HC.out]; unfold glV; rw [← H1'.out, ← H2'.out, ← canon_fopV, fin_canon]; rfl, by rw [canon_onlyN, canon_fopV, H1'.out, H2'.out]; unfold glR glV; rw [HC.out]; rfl, by first | exact below_draws B2.out _ | exact below_draws (below_draws B2.out _) _⟩
set_option maxHeartbeats 4000000 in
theorem s_GlideAt (A L D : Option Addr) (ca cl cd : Nat) (a l d : List Nat) (x : Nat) (w : World) (h : Pf w A L D a l d) (hn : Few a l d) :
    Calls Try.prog 24 #[.agg #[.slice A a.length ca, .slice L l.length cl, .slice D d.length cd], .float .f32 x] w fun e w' => ∃ r, e = .returned (.tuple #[.float .f32 r, .bool (glO a l d x)]) ∧ canon .f32 r = glR a l d x ∧ Below w.heap.size w w' := by
  have HP := Lib.hid h; clear h
  have HN := Lib.hid hn; clear hn
  have HB : ∀ o1, Hid (Below w.heap.size w (w.alloc o1)) := fun _ => Lib.hid ((Below.refl _ _).alloc (Nat.le_refl _) _)
  cases hv : canSpan' a l d x
  all_goals
    have HV := Lib.hid hv; clear hv
    go_enter Try.func24, Try.ntmps24
    go_wp2_with fail
    refine (s_l02Can A L D ca cl cd a l d x _ _ (HP.out.below (HB _).out) (blk3_new w _ _ _ _) HN.out).mono ?_
    rintro e w1 ⟨n, rfl, rfl⟩
    rw [show canSpan' a l d x = _ from HV.out]
  · have HC : Hid (glC a l d x = false) := Lib.hid (by unfold glC; rw [HV.out]; rfl)
    go_wp2
    go_ret2
    exact ⟨_, by unfold glO; rw [HC.out]; rfl, by unfold glR; rw [HC.out]; exact canon_zero, below_draws (HB _).out _⟩
  · go_wp2_with fail
    refine (s_l02Lift A L D ca cl cd a l d x _ _ (HP.out.below (below_draws (HB _).out n)) (blk3_new w _ _ _ _) HV.out).mono ?_
    rintro e w1 ⟨r1, m1, rfl, h1, rfl⟩
    have H1 := Lib.hid h1; clear h1
    go_wp2_with fail
    refine (s_l02Drag A L D ca cl cd a l d x _ _ (HP.out.below (below_draws (HB _).out _)) (blk3_new w _ _ _ _) HV.out).mono ?_
    rintro e w1 ⟨r2, m2, rfl, h2, rfl⟩
    have H2 := Lib.hid h2; clear h2
    have F1 : Hid (fin .f32 r1 = fin .f32 (atV a l x)) := Lib.hid (by rw [← H1.out, fin_canon])
    have F2 : Hid (fin .f32 r2 = fin .f32 (atV a d x)) := Lib.hid (by rw [← H2.out, fin_canon])
    cases f1 : fin .f32 r1
    · have HC : Hid (glC a l d x = false) := Lib.hid (by unfold glC; rw [← F1.out, f1]; simp)
      have FF := Lib.hid f1; clear f1
      go_wp2_with fail
      refine (s_l01Finite _ _).mono ?_
      rintro e w1 ⟨m3, rfl, rfl⟩
      rw [FF.out]
      go_wp2
      go_ret2
      exact ⟨_, by unfold glO; rw [HC.out]; rfl, by unfold glR; rw [HC.out]; exact canon_zero, below_draws (HB _).out _⟩
    · have FF := Lib.hid f1; clear f1
      go_wp2_with fail
      refine (s_l01Finite _ _).mono ?_
      rintro e w1 ⟨m3, rfl, rfl⟩
      rw [FF.out]
      cases f2 : fin .f32 r2
      · have HC : Hid (glC a l d x = false) := Lib.hid (by unfold glC; rw [← F2.out, f2]; simp)
        have FF2 := Lib.hid f2; clear f2
        go_wp2_with fail
        refine (s_l01Finite _ _).mono ?_
        rintro e w1 ⟨m4, rfl, rfl⟩
        rw [FF2.out]
        go_wp2
        go_ret2
        exact ⟨_, by unfold glO; rw [HC.out]; rfl, by unfold glR; rw [HC.out]; exact canon_zero, below_draws (HB _).out _⟩
      · have HC : Hid (glC a l d x = true) := Lib.hid (by unfold glC; rw [← F1.out, ← F2.out, FF.out, f2, HV.out]; rfl)
        have FF2 := Lib.hid f2; clear f2
        go_wp2_with fail
        refine (s_l01Finite _ _).mono ?_
        rintro e w1 ⟨m4, rfl, rfl⟩
        rw [FF2.out]
        go_wp2_with fail
        refine (s_l02Number _ _).mono ?_
        rintro e w' ⟨q, rfl, rfl⟩
        go_wp2
        go_ret2
        exact ⟨_, by unfold glO; rw [HC.out]; unfold glV; rw [← H1.out, ← H2.out, ← canon_fopV, fin_canon]; rfl, by rw [canon_onlyN, canon_fopV, H1.out, H2.out]; unfold glR glV; rw [HC.out]; rfl, below_draws (HB _).out _⟩
end Go.Proofs.Ytmfookomcgbbkab
