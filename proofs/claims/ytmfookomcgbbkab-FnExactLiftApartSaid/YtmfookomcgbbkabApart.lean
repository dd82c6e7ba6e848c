/- Lifts of air that may be apart. No statement is proved here. -/
import Derived.Test.YtmfookomcgbbkabGlide
namespace Go.Proofs.Ytmfookomcgbbkab
open Go Go.RowKit
def laV (a l : List Nat) (x s : Nat) (ap : Bool) : Nat := if ap then fop .mul .f32 (atV a l x) (canon .f32 s) else atV a l x
def laC (a l d : List Nat) (x s : Nat) : Bool := canSpan' a l d x && fin .f32 s
def laO (a l d : List Nat) (x s : Nat) (ap : Bool) : Bool := laC a l d x s && fin .f32 (laV a l x s ap)
def laR (a l d : List Nat) (x s : Nat) (ap : Bool) : Nat := if laC a l d x s then onlyN (laV a l x s ap) else 0
theorem laV_no {a l : List Nat} {x s : Nat} {ap : Bool} (h : fin .f32 (atV a l x) = false) : fin .f32 (laV a l x s ap) = false := by
  unfold laV; cases ap
  · exact h
  · exact mul_not_fin h
theorem la_no {a l d : List Nat} {x s : Nat} {ap : Bool} (h : laO a l d x s ap = false) : laR a l d x s ap = 0 := by
  unfold laO at h; unfold laR onlyN
  cases hc : laC a l d x s
  · rfl
  · rw [hc] at h; rw [show fin .f32 (laV a l x s ap) = false by simpa using h]; rfl
theorem la_at {a l d : List Nat} {x s : Nat} {ap : Bool} (h : atO a l d l x = false) : laO a l d x s ap = false := by
  unfold atO at h; unfold laO laC
  cases hc : canSpan' a l d x
  · rfl
  · rw [hc] at h; rw [laV_no (by simpa using h), Bool.and_false]
set_option maxHeartbeats 4000000 in
theorem i_LiftApart (A L D : Option Addr) (ca cl cd : Nat) (a l d : List Nat) (x s : Nat) (ap : Bool) (w : World) (h : Pf w A L D a l d) (hn : Few a l d) :
    Calls Try.prog 33 #[.agg #[.slice A a.length ca, .slice L l.length cl, .slice D d.length cd], .float .f32 x, .float .f32 s, .bool ap] w fun e w' => ∃ r, e = .returned (.tuple #[.float .f32 r, .bool (laO a l d x s ap)]) ∧ canon .f32 r = laR a l d x s ap ∧ Below w.heap.size w w' := by
  have HP := Lib.hid h; clear h
  have HN := Lib.hid hn; clear hn
  have HB : ∀ o1, Hid (Below w.heap.size w (w.alloc o1)) := fun _ => Lib.hid ((Below.refl _ _).alloc (Nat.le_refl _) _)
  cases g1 : atO a l d l x
  · have HC : Hid (laO a l d x s ap = false) := Lib.hid (la_at g1)
    have G1 := Lib.hid g1
    clear g1
    go_enter Try.func33, Try.ntmps33
    go_wp2_with fail
    refine (i_LiftAt A L D ca cl cd a l d x _ (HP.out.below (HB _).out) HN.out).mono ?_
    rintro e w1 ⟨r1, rfl, h1, b1⟩
    have B1 : Hid (Below w.heap.size w w1) := Lib.hid (below_of (HB _).out (by simp) b1)
    clear b1 h1
    rw [G1.out]
    go_wp2
    go_ret2
    exact ⟨_, by rw [HC.out]; rfl, by rw [la_no HC.out]; exact canon_zero, B1.out⟩
  · have hg1 := g1
    unfold atO at hg1
    rw [Bool.and_eq_true] at hg1
    have HS : Hid (canSpan' a l d x = true) := Lib.hid hg1.1
    have HF : Hid (fin .f32 (atV a l x) = true) := Lib.hid hg1.2
    have G1 := Lib.hid g1
    clear g1 hg1
    cases f : fin .f32 s
    · have HC : Hid (laO a l d x s ap = false) := Lib.hid (by unfold laO laC; rw [f]; simp)
      have FF := Lib.hid f; clear f
      go_enter Try.func33, Try.ntmps33
      go_wp2_with fail
      refine (i_LiftAt A L D ca cl cd a l d x _ (HP.out.below (HB _).out) HN.out).mono ?_
      rintro e w1 ⟨r1, rfl, h1, b1⟩
      have B1 : Hid (Below w.heap.size w w1) := Lib.hid (below_of (HB _).out (by simp) b1)
      clear b1 h1
      rw [G1.out]
      go_wp2_with fail
      refine (i_IsFinite _ _).mono ?_
      rintro e w' ⟨q, rfl, rfl⟩
      rw [FF.out]
      go_wp2
      go_ret2
      exact ⟨_, by rw [HC.out]; rfl, by rw [la_no HC.out]; exact canon_zero, below_draws B1.out _⟩
    · have HC : Hid (laC a l d x s = true) := Lib.hid (by unfold laC; rw [HS.out, f]; rfl)
      have FF := Lib.hid f; clear f
      cases ap
      · go_enter Try.func33, Try.ntmps33
        go_wp2_with fail
        refine (i_LiftAt A L D ca cl cd a l d x _ (HP.out.below (HB _).out) HN.out).mono ?_
        rintro e w1 ⟨r1, rfl, h1, b1⟩
        have B1 : Hid (Below w.heap.size w w1) := Lib.hid (below_of (HB _).out (by simp) b1)
        have H1 : Hid (canon .f32 r1 = atV a l x) := Lib.hid (by rw [h1]; unfold atR onlyN; rw [HS.out, HF.out]; rfl)
        clear b1 h1
        rw [G1.out]
        go_wp2_with fail
        refine (i_IsFinite _ _).mono ?_
        rintro e w' ⟨q, rfl, rfl⟩
        rw [FF.out]
        go_wp2
        go_ret2
        exact ⟨_, by unfold laO laV; rw [HC.out]; simp only [Bool.false_eq_true, if_false]; rw [HF.out]; rfl, by rw [H1.out]; unfold laR laV onlyN; rw [HC.out]; simp only [Bool.false_eq_true, if_false]; rw [HF.out]; rfl, below_draws B1.out _⟩
      · go_enter Try.func33, Try.ntmps33
        go_wp2_with fail
        refine (i_LiftAt A L D ca cl cd a l d x _ (HP.out.below (HB _).out) HN.out).mono ?_
        rintro e w1 ⟨r1, rfl, h1, b1⟩
        have B1 : Hid (Below w.heap.size w w1) := Lib.hid (below_of (HB _).out (by simp) b1)
        have H1 : Hid (canon .f32 r1 = atV a l x) := Lib.hid (by rw [h1]; unfold atR onlyN; rw [HS.out, HF.out]; rfl)
        clear b1 h1
        rw [G1.out]
        go_wp2_with fail
        refine (i_IsFinite _ _).mono ?_
        rintro e w' ⟨q, rfl, rfl⟩
        rw [FF.out]
        go_wp2_with fail
        refine (i_onlyFinite _ _).mono ?_
        rintro e w' ⟨q2, rfl, rfl⟩
        go_wp2
        go_ret2
        exact ⟨_, by unfold laO laV; rw [HC.out, if_pos rfl, ← H1.out, ← canon_fopV, fin_canon]; rfl, by rw [canon_onlyN, canon_fopV, H1.out]; unfold laR laV; rw [HC.out]; rfl, by first | exact below_draws B1.out _ | exact below_draws (below_draws B1.out _) _⟩
set_option maxHeartbeats 4000000 in
theorem s_LiftApart (A L D : Option Addr) (ca cl cd : Nat) (a l d : List Nat) (x s : Nat) (ap : Bool) (w : World) (h : Pf w A L D a l d) (hn : Few a l d) :
    Calls Try.prog 32 #[.agg #[.slice A a.length ca, .slice L l.length cl, .slice D d.length cd], .float .f32 x, .float .f32 s, .bool ap] w fun e w' => ∃ r, e = .returned (.tuple #[.float .f32 r, .bool (laO a l d x s ap)]) ∧ canon .f32 r = laR a l d x s ap ∧ Below w.heap.size w w' := by
  have HP := Lib.hid h; clear h
  have HN := Lib.hid hn; clear hn
  have HB : ∀ o1, Hid (Below w.heap.size w (w.alloc o1)) := fun _ => Lib.hid ((Below.refl _ _).alloc (Nat.le_refl _) _)
  cases hv : canSpan' a l d x
  · have HV := Lib.hid hv; clear hv
    have HC : Hid (laO a l d x s ap = false) := Lib.hid (by unfold laO laC; rw [HV.out]; rfl)
    go_enter Try.func32, Try.ntmps32
    go_wp2_with fail
    refine (s_l02Can A L D ca cl cd a l d x _ _ (HP.out.below (HB _).out) (blk3_new w _ _ _ _) HN.out).mono ?_
    rintro e w1 ⟨n, rfl, rfl⟩
    rw [show canSpan' a l d x = _ from HV.out]
    go_wp2
    go_ret2
    exact ⟨_, by rw [HC.out]; rfl, by rw [la_no HC.out]; exact canon_zero, below_draws (HB _).out _⟩
  · have HV := Lib.hid hv; clear hv
    cases f : fin .f32 s
    · have HC : Hid (laO a l d x s ap = false) := Lib.hid (by unfold laO laC; rw [f]; simp)
      have FF := Lib.hid f; clear f
      go_enter Try.func32, Try.ntmps32
      go_wp2_with fail
      refine (s_l02Can A L D ca cl cd a l d x _ _ (HP.out.below (HB _).out) (blk3_new w _ _ _ _) HN.out).mono ?_
      rintro e w1 ⟨n, rfl, rfl⟩
      rw [show canSpan' a l d x = _ from HV.out]
      go_wp2_with fail
      refine (s_l01Finite _ _).mono ?_
      rintro e w' ⟨q, rfl, rfl⟩
      rw [FF.out]
      go_wp2
      go_ret2
      exact ⟨_, by rw [HC.out]; rfl, by rw [la_no HC.out]; exact canon_zero, below_draws (HB _).out _⟩
    · have HC : Hid (laC a l d x s = true) := Lib.hid (by unfold laC; rw [HV.out, f]; rfl)
      have FF := Lib.hid f; clear f
      cases ap
      all_goals
        go_enter Try.func32, Try.ntmps32
        go_wp2_with fail
        refine (s_l02Can A L D ca cl cd a l d x _ _ (HP.out.below (HB _).out) (blk3_new w _ _ _ _) HN.out).mono ?_
        rintro e w1 ⟨n, rfl, rfl⟩
        rw [show canSpan' a l d x = _ from HV.out]
        go_wp2_with fail
        refine (s_l01Finite _ _).mono ?_
        rintro e w' ⟨q, rfl, rfl⟩
        rw [FF.out]
        go_wp2_with fail
        refine (s_l02Lift A L D ca cl cd a l d x _ _ (HP.out.below (below_draws (HB _).out _)) (blk3_new w _ _ _ _) HV.out).mono ?_
        rintro e w1 ⟨r1, m1, rfl, h1, rfl⟩
        have H1 := Lib.hid h1; clear h1
        go_wp2_with fail
        refine (s_l02Number _ _).mono ?_
        rintro e w' ⟨q2, rfl, rfl⟩
        go_wp2
        go_ret2
      · exact ⟨_, by unfold laO laV; rw [HC.out]; simp only [Bool.false_eq_true, if_false]; rw [← H1.out, fin_canon]; rfl, by rw [canon_onlyN, H1.out]; unfold laR laV; rw [HC.out]; rfl, below_draws (HB _).out _⟩
      · exact ⟨_, by unfold laO laV; rw [HC.out, if_pos rfl, ← H1.out, ← canon_fopV, fin_canon]; rfl, by rw [canon_onlyN, canon_fopV, H1.out]; unfold laR laV; rw [HC.out]; rfl, below_draws (HB _).out _⟩
end Go.Proofs.Ytmfookomcgbbkab
