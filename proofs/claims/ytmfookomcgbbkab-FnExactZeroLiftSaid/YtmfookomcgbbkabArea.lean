/- Areas below lifts. No statement is proved here. -/
import Derived.Test.YtmfookomcgbbkabVal
import Derived.Test.YtmfookomcgbbkabSums
namespace Go.Proofs.Ytmfookomcgbbkab
open Go Go.RowKit

/-- a number if it is finite -/
def onlyN (x : Nat) : Nat := if fin .f32 x then x else 0
theorem canon_onlyN (x : Nat) : canon .f32 (onlyN x) = onlyN (canon .f32 x) := by
  unfold onlyN
  rw [fin_canon]
  cases h : fin .f32 x
  · exact canon_zero
  · rfl
theorem i_onlyFinite (x : Nat) (w : World) :
    Calls Try.prog 62 #[.float .f32 x] w fun e w' => ∃ n, e = .returned (.tuple #[.float .f32 (onlyN x), .bool (fin .f32 x)]) ∧ w' = w.drewN n := by
  cases h : fin .f32 x
  all_goals
    have HF := Lib.hid h
    go_enter Try.func62, Try.ntmps62
    go_wp2_with fail
    refine (i_IsFinite _ _).mono ?_
    rintro e w' ⟨n, rfl, rfl⟩
    rw [show fin .f32 x = _ from HF.out]
    go_wp2
    go_ret2
    exact ⟨_, by unfold onlyN; rw [h]; rfl, rfl⟩
theorem s_l02Number (x : Nat) (w : World) :
    Calls Try.prog 54 #[.float .f32 x] w fun e w' => ∃ n, e = .returned (.tuple #[.float .f32 (onlyN x), .bool (fin .f32 x)]) ∧ w' = w.drewN n := by
  cases h : fin .f32 x
  all_goals
    have HF := Lib.hid h
    go_enter Try.func54, Try.ntmps54
    go_wp2_with fail
    refine (s_l01Finite _ _).mono ?_
    rintro e w' ⟨n, rfl, rfl⟩
    rw [show fin .f32 x = _ from HF.out]
    go_wp2
    go_ret2
    exact ⟨_, by unfold onlyN; rw [h]; rfl, rfl⟩
def areaAt (a l : List Nat) (k : Nat) : Nat :=
  fop .mul .f32 (fop .mul .f32 (canon .f32 1056964608) (fop .add .f32 (canon .f32 (l.getD k 0)) (canon .f32 (l.getD (k + 1) 0)))) (fop .sub .f32 (canon .f32 (a.getD (k + 1) 0)) (canon .f32 (a.getD k 0)))
def area (a l : List Nat) : Nat → Nat
  | 0 => 0
  | k + 1 => fop .add .f32 (area a l k) (areaAt a l k)
def areaO (a l d : List Nat) : Bool := validP a l d && fin .f32 (area a l (a.length - 1))
def areaR (a l d : List Nat) : Nat := if validP a l d then onlyN (area a l (a.length - 1)) else 0
set_option maxHeartbeats 8000000 in
theorem i_LiftArea (A L D : Option Addr) (ca cl cd : Nat) (a l d : List Nat) (w : World) (h : Pf w A L D a l d) (hn : Few a l d) (_hca : a.length ≤ ca) (hcl : l.length ≤ cl) (_hcd : d.length ≤ cd) :
    Calls Try.prog 31 #[.agg #[.slice A a.length ca, .slice L l.length cl, .slice D d.length cd]] w fun e w' => ∃ r, e = .returned (.tuple #[.float .f32 r, .bool (areaO a l d)]) ∧ canon .f32 r = areaR a l d ∧ Below w.heap.size w w' := by
  have HP := Lib.hid h; clear h
  have HN := Lib.hid hn; clear hn
  have HB : ∀ o1, Hid (Below w.heap.size w (w.alloc o1)) := fun _ => Lib.hid ((Below.refl _ _).alloc (Nat.le_refl _) _)
  cases hv : validP a l d
  · have HV := Lib.hid hv
    go_enter Try.func31, Try.ntmps31
    go_wp2_with fail
    refine (i_ValidProfile A L D ca cl cd a l d _ (HP.out.below (HB _).out) HN.out).mono ?_
    rintro e w1 ⟨rfl, b1⟩
    have B1 : Hid (Below w.heap.size w w1) := Lib.hid (below_of (HB _).out (by simp) b1)
    clear b1
    rw [show validP a l d = _ from HV.out]
    go_wp2
    go_ret2
    exact ⟨_, by unfold areaO; rw [HV.out]; rfl, by unfold areaR; rw [HV.out]; exact canon_zero, B1.out⟩
  · have HV := Lib.hid hv
    obtain ⟨s1, s2, s3, s4⟩ := sized_of hv
    clear hv
    have e1 : a.length ≤ l.length := by omega
    have e2 : l.length ≤ a.length := by omega
    have e3 : 1 < cl := by omega
    clear s3 s4
    go_enter Try.func31, Try.ntmps31
    go_wp2_with fail
    refine (i_ValidProfile A L D ca cl cd a l d _ (HP.out.below (HB _).out) HN.out).mono ?_
    rintro e w1 ⟨rfl, b1⟩
    have B1 : Hid (Below w.heap.size w w1) := Lib.hid (below_of (HB _).out (by simp) b1)
    have K1 : Hid (Blk3 w1 w.heap.size _ _ _) := Lib.hid (Blk3.below (blk3_new w _ _ _ _) b1)
    clear b1
    rw [show validP a l d = _ from HV.out]
    obtain ⟨-, ⟨k0, k1, k2⟩, -, -, -⟩ := K1.out
    obtain ⟨bl, ol, rfl, hbl, hcl0⟩ := HP.out.2.1.at_ (show 1 < l.length by omega)
    clear hcl0 hbl
    go_wp2_with fail
    have PA := Lib.hid (HP.out.1.below B1.out)
    have PL := Lib.hid (HP.out.2.1.below B1.out)
    go_loopw [4, 15] (fun s i wr => ∃ k n r : Nat, k ≤ a.length - 1 ∧ i = .int .i64 k ∧ s = .float .f32 r ∧ Hid (canon .f32 r = area a l k) ∧ wr = w1.drewN n) (fun _ i _ => a.length - 1 - (intOf i).toNat)
    case atStart => exact ⟨0, 0, 0, Nat.zero_le _, rfl, rfl, canon_zero, rfl⟩
    case round =>
      obtain ⟨k, n, r, hk, rfl, rfl, hr, rfl⟩ := hrel
      by_cases hlt : k < a.length - 1
      · obtain ⟨ba, oa, rfl, hb, hc⟩ := PA.out.at_ (show k < a.length by omega)
        have hc' := PA.out.same rfl (show k + 1 < a.length by omega)
        have hl := PL.out.same rfl (show k < l.length by omega)
        have hl' := PL.out.same rfl (show k + 1 < l.length by omega)
        have hl2 : w1.cell? ⟨bl, ol + 1 + k, none⟩ = some (.float .f32 (l.getD (k + 1) 0)) := by rw [show ol + 1 + k = ol + (k + 1) by omega]; exact hl'
        clear hl'
        have HS : Hid (area a l (k + 1) = fop .add .f32 (area a l k) (areaAt a l k)) := rfl
        have HA : Hid (areaAt a l k = fop .mul .f32 (fop .mul .f32 (canon .f32 1056964608) (fop .add .f32 (canon .f32 (l.getD k 0)) (canon .f32 (l.getD (k + 1) 0)))) (fop .sub .f32 (canon .f32 (a.getD (k + 1) 0)) (canon .f32 (a.getD k 0)))) := rfl
        generalize a.getD k 0 = x0 at hc HA
        generalize a.getD (k + 1) 0 = x1 at hc' HA
        generalize l.getD k 0 = y0 at hl HA
        generalize l.getD (k + 1) 0 = y1 at hl2 HA
        have hk1 : k + 1 < a.length := by omega
        have hwr : IntKind.i64.wrap ((k : Int) + 1) = (k : Int) + 1 := IntWalk.i64_in _ (by omega)
        have hge : (0 : Int) ≤ (k : Int) + 1 := by omega
        have hlt1 : (k : Int) + 1 < (a.length : Int) := by omega
        have htn : ((k : Int) + 1).toNat = k + 1 := by omega
        go_wp2_with fail
        go_region_with (go_at_call 69; refine (i_mulNumbers _ _ _).mono ?_; rintro e w' ⟨rfl, rfl⟩)
        all_goals
          go_wp2
          go_roundw
          case rel => exact ⟨k + 1, _, _, by omega, by go_num, rfl, Lib.hid (by simp only [canon_fopV]; rw [hr.out, HS.out, HA.out]), rfl⟩
          case measure => simp [intOf]; omega
      · have hkk : k = a.length - 1 := by omega
        subst hkk
        go_wp2_with fail
        refine (i_onlyFinite _ _).mono ?_
        rintro e w' ⟨m, rfl, rfl⟩
        go_wp2
        go_ret2
        exact ⟨onlyN r, by unfold areaO; rw [HV.out, ← hr.out, fin_canon]; rfl, by rw [canon_onlyN, hr.out]; unfold areaR; rw [HV.out]; rfl, below_draws B1.out _⟩
end Go.Proofs.Ytmfookomcgbbkab
