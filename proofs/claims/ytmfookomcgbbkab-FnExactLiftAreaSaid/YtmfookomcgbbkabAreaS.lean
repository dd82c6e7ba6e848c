/- Areas below lifts: the specification's side. No statement is proved here. -/
import Derived.Test.YtmfookomcgbbkabArea
namespace Go.Proofs.Ytmfookomcgbbkab
open Go Go.RowKit
set_option maxHeartbeats 8000000 in
theorem s_LiftArea (A L D : Option Addr) (ca cl cd : Nat) (a l d : List Nat) (w : World) (h : Pf w A L D a l d) (hn : Few a l d) (_hca : a.length ≤ ca) (_hcl : l.length ≤ cl) (_hcd : d.length ≤ cd) :
    Calls Try.prog 30 #[.agg #[.slice A a.length ca, .slice L l.length cl, .slice D d.length cd]] w fun e w' => ∃ r, e = .returned (.tuple #[.float .f32 r, .bool (areaO a l d)]) ∧ canon .f32 r = areaR a l d ∧ Below w.heap.size w w' := by
  have HP := Lib.hid h; clear h
  have HN := Lib.hid hn; clear hn
  have HB : ∀ o1, Hid (Below w.heap.size w (w.alloc o1)) := fun _ => Lib.hid ((Below.refl _ _).alloc (Nat.le_refl _) _)
  cases hv : validP a l d
  · have HV := Lib.hid hv
    go_enter Try.func30, Try.ntmps30
    go_wp2_with fail
    refine (s_l02Is A L D ca cl cd a l d _ _ (HP.out.below (HB _).out) (blk3_new w _ _ _ _) HN.out).mono ?_
    rintro e w1 ⟨n, rfl, rfl⟩
    rw [show validP a l d = _ from HV.out]
    go_wp2
    go_ret2
    exact ⟨_, by unfold areaO; rw [HV.out]; rfl, by unfold areaR; rw [HV.out]; exact canon_zero, below_draws (HB _).out _⟩
  · have HV := Lib.hid hv
    obtain ⟨s1, s2, s3, s4⟩ := sized_of hv
    clear hv
    have e1 : a.length ≤ l.length := by omega
    have e2 : l.length ≤ a.length := by omega
    clear s3 s4
    go_enter Try.func30, Try.ntmps30
    go_wp2_with fail
    refine (s_l02Is A L D ca cl cd a l d _ _ (HP.out.below (HB _).out) (blk3_new w _ _ _ _) HN.out).mono ?_
    rintro e w1 ⟨n0, rfl, rfl⟩
    rw [show validP a l d = _ from HV.out]
    obtain ⟨w1, hw1⟩ : ∃ w1, w1 = w.alloc (.cells #[.slice A a.length ca, .slice L l.length cl, .slice D d.length cd] 29) := ⟨_, rfl⟩
    have K1 : Hid (Blk3 w1 w.heap.size (.slice A a.length ca) (.slice L l.length cl) (.slice D d.length cd)) := Lib.hid (by rw [hw1]; exact blk3_new w _ _ _ _)
    have B1 : Hid (Below w.heap.size w w1) := Lib.hid (by rw [hw1]; exact (HB _).out)
    rw [← hw1]
    clear hw1
    obtain ⟨-, ⟨k0, k1, k2⟩, -, -, -⟩ := K1.out
    have PA := Lib.hid (HP.out.1.below B1.out)
    have PL := Lib.hid (HP.out.2.1.below B1.out)
    go_wp2_with fail
    go_loopw [4, 5] (fun s i wr => ∃ j n r : Nat, 1 ≤ j ∧ j ≤ a.length ∧ i = .int .i64 j ∧ s = .float .f32 r ∧ Hid (canon .f32 r = area a l (j - 1)) ∧ wr = w1.drewN n) (fun _ i _ => a.length - (intOf i).toNat)
    case atStart => exact ⟨1, _, 0, by omega, by omega, rfl, rfl, canon_zero, rfl⟩
    case round =>
      obtain ⟨j, n, r, hj1, hj, rfl, rfl, hr, rfl⟩ := hrel
      by_cases hlt : j < a.length
      · obtain ⟨ba, oa, rfl, hb, hc⟩ := PA.out.at_ (show j - 1 < a.length by omega)
        have hc' := PA.out.same rfl (show j < a.length by omega)
        obtain ⟨bl, ol, rfl, hbl, hl⟩ := PL.out.at_ (show j - 1 < l.length by omega)
        have hl' := PL.out.same rfl (show j < l.length by omega)
        clear hb hbl
        have HS : Hid (area a l (j + 1 - 1) = fop .add .f32 (area a l (j - 1)) (areaAt a l (j - 1))) := Lib.hid (by rw [show j + 1 - 1 = j - 1 + 1 by omega]; rfl)
        have HA : Hid (areaAt a l (j - 1) = fop .mul .f32 (fop .mul .f32 (canon .f32 1056964608) (fop .add .f32 (canon .f32 (l.getD (j - 1) 0)) (canon .f32 (l.getD j 0)))) (fop .sub .f32 (canon .f32 (a.getD j 0)) (canon .f32 (a.getD (j - 1) 0)))) := Lib.hid (by unfold areaAt; rw [show j - 1 + 1 = j by omega])
        generalize a.getD (j - 1) 0 = x0 at hc HA
        generalize a.getD j 0 = x1 at hc' HA
        generalize l.getD (j - 1) 0 = y0 at hl HA
        generalize l.getD j 0 = y1 at hl' HA
        have hwr : IntKind.i64.wrap ((j : Int) - 1) = ((j - 1 : Nat) : Int) := by rw [IntWalk.i64_in _ (by omega)]; omega
        have hlt2 : j < l.length := by omega
        have hlt3 : j - 1 < l.length := by omega
        have hlt4 : j - 1 < a.length := by omega
        go_wp2_with fail
        go_region_with (fail)
        all_goals
          go_wp2_with fail
          go_region_with (fail)
          all_goals
            go_wp2
            go_roundw
            case rel => exact ⟨j + 1, _, _, by omega, by omega, by go_num, rfl, Lib.hid (by simp only [canon_fopV]; rw [hr.out, HS.out, HA.out]), rfl⟩
            case measure => simp [intOf]; omega
      · have hkk : j = a.length := by omega
        subst hkk
        go_wp2_with fail
        refine (s_l02Number _ _).mono ?_
        rintro e w' ⟨m, rfl, rfl⟩
        go_wp2
        go_ret2
        exact ⟨onlyN r, by unfold areaO; rw [HV.out, ← hr.out, fin_canon]; rfl, by rw [canon_onlyN, hr.out]; unfold areaR; rw [HV.out]; rfl, below_draws B1.out _⟩
end Go.Proofs.Ytmfookomcgbbkab
