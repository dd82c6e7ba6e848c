/- What makes a farm, and a boat, valid: both sides. No statement is proved here. -/
import Derived.Test.YtmadlabnhjhfiaaFrm
namespace Go.Proofs.Ytmadlabnhjhfiaa
open Go Go.RowKit
theorem gtr_not_leq {a b : Nat} (ha : isn .f32 a = false) (hb : isn .f32 b = false) : gtr32 a b = !leq32 a b := by
  have h := order_some ha hb
  unfold gtr32 leq32
  cases ho : FloatKind.f32.format.order a b with
  | none => rw [ho] at h; cases h
  | some o => cases o <;> rfl
theorem posi_fin {x : Nat} (h : posi x = true) : fin .f32 x = true := by unfold posi at h; rw [Bool.and_eq_true] at h; exact h.1
theorem k1000 : isn .f32 1148846080 = false := by decide +kernel
set_option maxHeartbeats 8000000 in
theorem i_ValidFarm (X Y : Option Addr) (cx cy : Nat) (fx fy : List Nat) (fr fd fs : Nat) (w : World) (h : Rs w X Y fx fy) (hn : FewS fx fy) :
    Calls Try.prog 109 #[.agg #[.slice X fx.length cx, .slice Y fy.length cy, .float .f32 fr, .float .f32 fd, .float .f32 fs]] w fun e w' => e = .returned (.bool (frmV fx fy fr fd fs)) ∧ Below w.heap.size w w' := by
  unfold FewS at hn
  have HP := Lib.hid h; clear h
  have HB : ∀ o1, Hid (Below w.heap.size w (w.alloc o1)) := fun _ => Lib.hid ((Below.refl _ _).alloc (Nat.le_refl _) _)
  by_cases h1 : 1 ≤ fx.length
  · by_cases h2 : fx.length ≤ 12
    · by_cases h3 : fy.length = fx.length
      · have e1 : ((fy.length : Int) == (fx.length : Int)) = true := by simp; omega
        have HY : Hid (frmV fx fy fr fd fs = (fars fx fx.length && (fars fy fy.length && frmN fr fd fs))) := Lib.hid (frmV_yes ⟨h1, h2, h3⟩)
        clear h3
        go_enter Try.func109, Try.ntmps109
        go_wp2_with fail
        refine (i_hasTooFar X cx fx _ (HP.out.1.below (HB _).out) (by omega)).mono ?_
        rintro e w' ⟨n1, rfl, rfl⟩
        cases p1 : fars fx fx.length
        · go_wp2
          go_ret
          exact ⟨by simp [HY.out, frmN, p1], by repeat (first | exact (HB _).out | refine below_draws ?_ _)⟩
        · skip
          go_wp2_with fail
          refine (i_hasTooFar Y cy fy _ (HP.out.2.below (below_draws (HB _).out _)) (by omega)).mono ?_
          rintro e w' ⟨n2, rfl, rfl⟩
          cases p2 : fars fy fy.length
          · go_wp2
            go_ret
            exact ⟨by simp [HY.out, frmN, p1, p2], by repeat (first | exact (HB _).out | refine below_draws ?_ _)⟩
          · skip
            go_wp2_with fail
            refine (i_isPositive _ _).mono ?_
            rintro e w' ⟨n3, rfl, rfl⟩
            cases p3 : posi fr
            · go_wp2
              go_ret
              exact ⟨by simp [HY.out, frmN, p1, p2, p3], by repeat (first | exact (HB _).out | refine below_draws ?_ _)⟩
            · skip
              cases p4 : leq32 fr 1148846080
              · have P4 := Lib.hid p4
                unfold leq32 at p4
                go_wp2
                go_ret
                exact ⟨by simp [HY.out, frmN, p1, p2, p3, P4.out], by repeat (first | exact (HB _).out | refine below_draws ?_ _)⟩
              · have P4 := Lib.hid p4
                unfold leq32 at p4
                go_wp2_with fail
                refine (i_isPositive _ _).mono ?_
                rintro e w' ⟨n4, rfl, rfl⟩
                clear p4
                cases p5 : posi fs
                · go_wp2
                  go_ret
                  exact ⟨by simp [HY.out, frmN, p1, p2, p3, P4.out, p5], by repeat (first | exact (HB _).out | refine below_draws ?_ _)⟩
                · skip
                  go_wp2_with fail
                  refine (i_isWithin _ _ _ _).mono ?_
                  rintro e w' ⟨rfl, rfl⟩
                  go_wp2
                  go_ret
                  exact ⟨by simp [HY.out, frmN, p1, p2, p3, P4.out, p5], by repeat (first | exact (HB _).out | refine below_draws ?_ _)⟩
      · have e1 : ((fy.length : Int) == (fx.length : Int)) = false := by rw [beq_eq_false_iff_ne]; omega
        have HY : Hid (frmV fx fy fr fd fs = false) := Lib.hid (frmV_no (fun hh => h3 hh.2.2))
        clear h3
        go_enter Try.func109, Try.ntmps109
        go_wp2
        go_ret
        exact ⟨by rw [HY.out]; rfl, (HB _).out⟩
    · have HY : Hid (frmV fx fy fr fd fs = false) := Lib.hid (frmV_no (fun hh => h2 hh.2.1))
      go_enter Try.func109, Try.ntmps109
      go_wp2
      go_ret
      exact ⟨by rw [HY.out]; rfl, (HB _).out⟩
  · have HY : Hid (frmV fx fy fr fd fs = false) := Lib.hid (frmV_no (fun hh => h1 hh.1))
    go_enter Try.func109, Try.ntmps109
    go_wp2
    go_ret
    exact ⟨by rw [HY.out]; rfl, (HB _).out⟩
set_option maxHeartbeats 16000000 in
set_option maxRecDepth 100000 in
theorem s_l06Is (X Y : Option Addr) (cx cy : Nat) (fx fy : List Nat) (fr fd fs : Nat) (B : Nat) (w : World) (h : Rs w X Y fx fy) (hn : FewS fx fy) (hk : BlkL w B [.slice X fx.length cx, .slice Y fy.length cy, .float .f32 fr, .float .f32 fd, .float .f32 fs]) :
    Calls Try.prog 164 #[.pointer (some ⟨B, 0, none⟩)] w fun e w' => e = .returned (.bool (frmV fx fy fr fd fs)) ∧ ∃ n, w' = w.drewN n := by
  unfold FewS at hn
  have HP := Lib.hid h; clear h
  obtain ⟨k0, k1, k2, k3, k4⟩ := hk.five
  clear hk
  by_cases h1 : fx.length < 1
  · have HY : Hid (frmV fx fy fr fd fs = false) := Lib.hid (frmV_no (fun hh => by have := hh.1; omega))
    go_enter Try.func164, Try.ntmps164
    go_wp2
    go_ret
    exact ⟨by rw [HY.out]; rfl, 0, rfl⟩
  · by_cases h2 : 12 < fx.length
    · have HY : Hid (frmV fx fy fr fd fs = false) := Lib.hid (frmV_no (fun hh => by have := hh.2.1; omega))
      go_enter Try.func164, Try.ntmps164
      go_wp2
      go_ret
      exact ⟨by rw [HY.out]; rfl, 0, rfl⟩
    · by_cases h3 : fy.length = fx.length
      · have e1 : ((fy.length : Int) != (fx.length : Int)) = false := by simp; omega
        have HS : Hid (sizedF fx fy) := Lib.hid ⟨by omega, by omega, h3⟩
        have h3' : fx.length ≤ fy.length := by omega
        clear h3
        go_enter Try.func164, Try.ntmps164
        go_wp2_with fail
        refine (s_l02Above _ _).mono ?_
        rintro e w' ⟨m1, rfl, rfl⟩
        cases p1 : posi fr
        · skip
          have HN : Hid (frmV fx fy fr fd fs = false) := Lib.hid (frmV_noN (by simp [frmN, within, p1]))
          go_wp2
          go_ret
          exact ⟨by rw [HN.out]; rfl, _, by first | rfl | (simp only [World.drewN_drewN]; rfl)⟩
        · skip
          have PF := posi_fin p1
          have PG := gtr_not_leq (isn_of_fin PF) k1000
          clear PF
          cases p2 : leq32 fr 1148846080
          · rw [p2] at PG
            unfold gtr32 at PG
            have HN : Hid (frmV fx fy fr fd fs = false) := Lib.hid (frmV_noN (by simp [frmN, within, p1, p2]))
            go_wp2
            go_ret
            exact ⟨by rw [HN.out]; rfl, _, by first | rfl | (simp only [World.drewN_drewN]; rfl)⟩
          · rw [p2] at PG
            unfold gtr32 at PG
            go_wp2_with fail
            refine (s_l02Above _ _).mono ?_
            rintro e w' ⟨m2, rfl, rfl⟩
            clear PG
            cases p3 : posi fs
            · skip
              have HN : Hid (frmV fx fy fr fd fs = false) := Lib.hid (frmV_noN (by simp [frmN, within, p1, p2, p3]))
              go_wp2
              go_ret
              exact ⟨by rw [HN.out]; rfl, _, by first | rfl | (simp only [World.drewN_drewN]; rfl)⟩
            · skip
              cases p4 : geq32 fd 0
              · have q4 := p4
                unfold geq32 at q4
                have HN : Hid (frmV fx fy fr fd fs = false) := Lib.hid (frmV_noN (by simp [frmN, within, p1, p2, p3, p4]))
                go_wp2
                go_ret
                exact ⟨by rw [HN.out]; rfl, _, by first | rfl | (simp only [World.drewN_drewN]; rfl)⟩
              · have q4 := p4
                unfold geq32 at q4
                cases p5 : leq32 fd 1056964608
                · have q5 := p5
                  unfold leq32 at q5
                  have HN : Hid (frmV fx fy fr fd fs = false) := Lib.hid (frmV_noN (by simp [frmN, within, p1, p2, p3, p4, p5]))
                  go_wp2
                  go_ret
                  exact ⟨by rw [HN.out]; rfl, _, by first | rfl | (simp only [World.drewN_drewN]; rfl)⟩
                · have q5 := p5
                  unfold leq32 at q5
                  have HY : Hid (frmV fx fy fr fd fs = twoF fx fy fx.length) := Lib.hid (frmV_two HS.out (by simp [frmN, within, p1, p2, p3, p4, p5]))
                  clear p1 p2 p3 p4 p5
                  go_wp2
                  clear q4 q5 e1
                  go_loopw [4] (fun i wr => ∃ k n : Nat, k ≤ fx.length ∧ i = .int .i64 k ∧ Hid (twoF fx fy k = true) ∧ wr = w.drewN n) (fun i _ => fx.length - (intOf i).toNat)
                  case atStart => exact ⟨0, _, Nat.zero_le _, rfl, rfl, by first | rfl | (simp only [World.drewN_drewN]; rfl)⟩
                  case round =>
                    obtain ⟨k, n, hk, rfl, hr, rfl⟩ := hrel
                    by_cases hlt : k < fx.length
                    · obtain ⟨b, off, rfl, hb, hc⟩ := HP.out.1.at_ hlt
                      obtain ⟨bl, ol, rfl, hbl, hcl⟩ := HP.out.2.at_ (show k < fy.length by omega)
                      have hltl : k < fy.length := by omega
                      have HNo : Hid (twoF fx fy (k + 1) = false → frmV fx fy fr fd fs = false) := Lib.hid (fun h => by rw [HY.out]; exact twoF_no h (by omega))
                      have HA : Hid (twoF fx fy (k + 1) = (nearF (fx.getD k 0) && nearF (fy.getD k 0))) := Lib.hid (by show (twoF fx fy k && _) = _; rw [hr.out]; rfl)
                      obtain ⟨x, hx⟩ : ∃ x, x = fx.getD k 0 := ⟨_, rfl⟩
                      obtain ⟨y, hy⟩ : ∃ x, x = fy.getD k 0 := ⟨_, rfl⟩
                      rw [← hx] at hc
                      rw [← hy] at hcl
                      have HX := Lib.hid hx; clear hx hb
                      have HYY := Lib.hid hy; clear hy hbl
                      go_wp2_with fail
                      refine (s_l06Near _ _).mono ?_
                      rintro e w' ⟨rfl, rfl⟩
                      cases p1 : nearF x
                      · have HN : Hid (frmV fx fy fr fd fs = false) := Lib.hid (HNo.out (by rw [HA.out, ← HX.out, p1]; rfl))
                        go_wp2
                        go_ret
                        exact ⟨by rw [HN.out]; rfl, _, by first | rfl | (simp only [World.drewN_drewN]; rfl)⟩
                      · go_wp2_with fail
                        refine (s_l06Near _ _).mono ?_
                        rintro e w' ⟨rfl, rfl⟩
                        cases p2 : nearF y
                        · have HN : Hid (frmV fx fy fr fd fs = false) := Lib.hid (HNo.out (by rw [HA.out, ← HYY.out, p2]; simp))
                          go_wp2
                          go_ret
                          exact ⟨by rw [HN.out]; rfl, _, by first | rfl | (simp only [World.drewN_drewN]; rfl)⟩
                        · have HG : Hid (twoF fx fy (k + 1) = true) := Lib.hid (by rw [HA.out, ← HX.out, ← HYY.out, p1, p2]; rfl)
                          go_wp2
                          go_roundw
                          case rel => exact ⟨k + 1, _, by omega, by go_num, HG, by first | rfl | (simp only [World.drewN_drewN]; rfl)⟩
                          case measure => simp [intOf]; omega
                    · have hkk : k = fx.length := by omega
                      subst hkk
                      have HN : Hid (frmV fx fy fr fd fs = true) := Lib.hid (by rw [HY.out, hr.out])
                      go_wp2
                      go_ret
                      exact ⟨by rw [HN.out]; rfl, n, rfl⟩
      · have e1 : ((fy.length : Int) != (fx.length : Int)) = true := by rw [bne_iff_ne]; omega
        have HY : Hid (frmV fx fy fr fd fs = false) := Lib.hid (frmV_no (fun hh => h3 hh.2.2))
        clear h3
        go_enter Try.func164, Try.ntmps164
        go_wp2
        go_ret
        exact ⟨by rw [HY.out]; rfl, 0, rfl⟩
end Go.Proofs.Ytmadlabnhjhfiaa
