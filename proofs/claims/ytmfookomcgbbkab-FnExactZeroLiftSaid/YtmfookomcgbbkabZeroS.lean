/- Where lifts rise through nothing: the specification's side. No statement is proved here. -/
import Derived.Test.YtmfookomcgbbkabZero
namespace Go.Proofs.Ytmfookomcgbbkab
open Go Go.RowKit
set_option maxHeartbeats 8000000 in
theorem s_ZeroLift (A L D : Option Addr) (ca cl cd : Nat) (a l d : List Nat) (w : World) (h : Pf w A L D a l d) (hn : Few a l d) (_hca : a.length ≤ ca) (_hcl : l.length ≤ cl) (_hcd : d.length ≤ cd) :
    Calls Try.prog 28 #[.agg #[.slice A a.length ca, .slice L l.length cl, .slice D d.length cd]] w fun e w' => ∃ r, e = .returned (.tuple #[.float .f32 r, .bool (zO a l d)]) ∧ canon .f32 r = zR a l d ∧ Below w.heap.size w w' := by
  have HP := Lib.hid h; clear h
  have HN := Lib.hid hn; clear hn
  have HB : ∀ o1, Hid (Below w.heap.size w (w.alloc o1)) := fun _ => Lib.hid ((Below.refl _ _).alloc (Nat.le_refl _) _)
  cases hv : validP a l d
  · have HV := Lib.hid hv
    go_enter Try.func28, Try.ntmps28
    go_wp2_with fail
    refine (s_l02Is A L D ca cl cd a l d _ _ (HP.out.below (HB _).out) (blk3_new w _ _ _ _) HN.out).mono ?_
    rintro e w1 ⟨n, rfl, rfl⟩
    rw [show validP a l d = _ from HV.out]
    go_wp2
    go_ret2
    exact ⟨_, by unfold zO; rw [HV.out]; rfl, by unfold zR; rw [HV.out]; exact canon_zero, below_draws (HB _).out _⟩
  · have HV := Lib.hid hv
    obtain ⟨s1, s2, s3, s4⟩ := sized_of hv
    have HA : Hid (angs a a.length = true) := Lib.hid (by rw [validP_yes (sized_of hv)] at hv; simp only [Bool.and_eq_true] at hv; exact hv.1)
    clear hv
    have e1 : a.length ≤ l.length := by omega
    have e2 : l.length ≤ a.length := by omega
    clear s3 s4
    go_enter Try.func28, Try.ntmps28
    go_wp2_with fail
    refine (s_l02Is A L D ca cl cd a l d _ _ (HP.out.below (HB _).out) (blk3_new w _ _ _ _) HN.out).mono ?_
    rintro e w1 ⟨n0, rfl, rfl⟩
    rw [show validP a l d = _ from HV.out]
    obtain ⟨w1, hw1⟩ : ∃ w1, w1 = w.alloc (.cells #[.slice A a.length ca, .slice L l.length cl, .slice D d.length cd] 29) := ⟨_, rfl⟩
    have K1 : Hid (Blk3 w1 w.heap.size (.slice A a.length ca) (.slice L l.length cl) (.slice D d.length cd)) := Lib.hid (by rw [hw1]; exact blk3_new w _ _ _ _)
    have B1 : Hid (Below w.heap.size w w1) := Lib.hid (by rw [hw1]; exact (HB _).out)
    rw [← hw1]
    clear hw1
    obtain ⟨-, ⟨k0, k1, k2⟩, -, -, -⟩ := K1.out
    have PA := Lib.hid (HP.out.1.below B1.out)
    have PL := Lib.hid (HP.out.2.1.below B1.out)
    go_wp2_with fail
    go_loopw [4] (fun i wr => ∃ j n : Nat, 1 ≤ j ∧ j ≤ a.length ∧ i = .int .i64 j ∧ Hid (∀ k, k < j - 1 → zAt l k = false) ∧ wr = w1.drewN n) (fun i _ => a.length - (intOf i).toNat)
    case atStart => exact ⟨1, _, by omega, by omega, rfl, Lib.hid (fun k hk => by omega), rfl⟩
    case round =>
      obtain ⟨j, n, hj1, hj, rfl, hr, rfl⟩ := hrel
      by_cases hlt : j < a.length
      · obtain ⟨ba, oa, rfl, hb, hc⟩ := PA.out.at_ (show j - 1 < a.length by omega)
        have hc' := PA.out.same rfl (show j < a.length by omega)
        obtain ⟨bl, ol, rfl, hbl, hl⟩ := PL.out.at_ (show j - 1 < l.length by omega)
        have hl' := PL.out.same rfl (show j < l.length by omega)
        clear hb hbl
        have hd := ang_sub HA.out (show j - 1 + 1 < a.length by omega)
        rw [show j - 1 + 1 = j by omega] at hd
        obtain ⟨d1, d2⟩ := hd
        have HZ : Hid (zAt l (j - 1) = (leq32 (l.getD (j - 1) 0) 0 && gtr32 (l.getD j 0) 0)) := Lib.hid (by unfold zAt; rw [show j - 1 + 1 = j by omega])
        have HVv : Hid (zV a l (j - 1) = fop .add .f32 (canon .f32 (a.getD (j - 1) 0)) (fop .mul .f32 (canon .f32 (fop .sub .f32 (a.getD j 0) (a.getD (j - 1) 0))) (fop .quo .f32 (canon .f32 (l.getD (j - 1) 0)) (fop .sub .f32 (canon .f32 (l.getD (j - 1) 0)) (canon .f32 (l.getD j 0)))))) := Lib.hid (by unfold zV; rw [show j - 1 + 1 = j by omega])
        generalize a.getD (j - 1) 0 = x0 at hc HVv d1 d2
        generalize a.getD j 0 = x1 at hc' HVv d1 d2
        generalize l.getD (j - 1) 0 = y0 at hl HZ HVv
        generalize l.getD j 0 = y1 at hl' HZ HVv
        have hwr : IntKind.i64.wrap ((j : Int) - 1) = ((j - 1 : Nat) : Int) := by rw [IntWalk.i64_in _ (by omega)]; omega
        have hlt2 : j < l.length := by omega
        have hlt3 : j - 1 < l.length := by omega
        have hlt4 : j - 1 < a.length := by omega
        cases q1 : (FloatKind.f32.format.order y0 0 == some .lt || FloatKind.f32.format.order y0 0 == some .eq)
        · have HR : Hid (∀ k, k < j + 1 - 1 → zAt l k = false) := Lib.hid (fun k hk => by
            by_cases e : k = j - 1
            · rw [e, HZ.out]; unfold leq32; rw [q1]; rfl
            · exact hr.out k (by omega))
          go_wp2
          go_roundw
          case rel => exact ⟨j + 1, _, by omega, by omega, by go_num, HR, rfl⟩
          case measure => simp [intOf]; omega
        · cases q2 : (FloatKind.f32.format.order y1 0 == some .gt)
          · have HR : Hid (∀ k, k < j + 1 - 1 → zAt l k = false) := Lib.hid (fun k hk => by
              by_cases e : k = j - 1
              · rw [e, HZ.out]; unfold leq32 gtr32; rw [q1, q2]; rfl
              · exact hr.out k (by omega))
            go_wp2
            go_roundw
            case rel => exact ⟨j + 1, _, by omega, by omega, by go_num, HR, rfl⟩
            case measure => simp [intOf]; omega
          · have HH : Hid (zF l (a.length - 1) = some (j - 1)) := Lib.hid (zF_hit hr.out (by rw [HZ.out]; unfold leq32 gtr32; rw [q1, q2]; rfl) _ (by omega))
            go_wp2_with fail
            go_quiet (fail)
            go_wp2_with fail
            refine (s_l02Number _ _).mono ?_
            rintro e w' ⟨q, rfl, rfl⟩
            go_wp2
            go_ret2
            exact ⟨_, by unfold zO; rw [HV.out, HH.out]; simp only [Bool.true_and]; rw [HVv.out, ← fin_canon]; simp only [canon_fopV, canon_fop]; rfl, by rw [canon_onlyN]; simp only [canon_fopV]; unfold zR; rw [HV.out, HH.out, if_pos rfl]; simp only []; rw [HVv.out], below_draws B1.out _⟩
      · have hkk : j = a.length := by omega
        subst hkk
        have HH : Hid (zF l (a.length - 1) = none) := Lib.hid (zF_none _ hr.out)
        go_wp2
        go_ret2
        exact ⟨_, by unfold zO; rw [HV.out, HH.out]; rfl, by unfold zR; rw [HV.out, HH.out]; exact canon_zero, below_draws B1.out _⟩
end Go.Proofs.Ytmfookomcgbbkab
