/- What makes a rotor valid: both sides. No statement is proved here. -/
import Derived.Test.YtahbcpjipomcgaaGreatRotL
import Derived.Test.YtahbcpjipomcgaaGreatPos
namespace Go.Proofs.YtahbcpjipomcgaaGreat
open Go Go.RowKit
set_option maxHeartbeats 4000000 in
theorem i_areStations (S : Option Addr) (n cs : Nat) (s : List Nat) (hub tip : Nat) (w : World) (h : Fl w S s) (hs : s.length = n * 3) (hn : n ≤ 1048576) :
    Calls Tryz.prog 76 #[.slice S n cs, .float .f32 hub, .float .f32 tip] w fun e w' => e = .returned (.bool (sts s hub tip n)) ∧ Below w.heap.size w w' := by
  have HF := Lib.hid h; clear h
  go_enter Tryz.func76, Tryz.ntmps76
  go_wp2
  go_loopw [7, 14] (fun b i wr => ∃ k : Nat, k ≤ n ∧ i = .int .i64 k ∧ b = .float .f32 (bef s hub k) ∧ Hid (sts s hub tip k = true) ∧ Hid (Below w.heap.size w wr)) (fun _ i _ => n - (intOf i).toNat)
  case atStart => exact ⟨0, Nat.zero_le _, rfl, rfl, rfl, Lib.hid (Below.refl _ _)⟩
  case round =>
    obtain ⟨k, hk, rfl, rfl, hr, HB⟩ := hrel
    by_cases hlt : k < n
    · have hF := HF.out.below HB.out
      obtain ⟨b, off, rfl, hb, hc0⟩ := hF.at_ (k := k * 3) (by omega)
      have hc1 := hF.same rfl (k := k * 3 + 1) (by omega)
      have hc2 := hF.same rfl (k := k * 3 + 2) (by omega)
      rw [← Nat.add_assoc] at hc1 hc2
      clear hF hb
      have HA : Hid (sts s hub tip (k + 1) = stStep s hub tip k) := by show _ = _; simp only [sts, hr.out, Bool.true_and]
      have HNo : Hid (sts s hub tip (k + 1) = false → sts s hub tip n = false) := Lib.hid (fun h => sts_no h (by omega))
      have HE : Hid (stStep s hub tip k = ((gtr32 (rad s k) (bef s hub k) && lss32 (rad s k) tip) && (posi (chd s k) && fin .f32 (twi s k)))) := rfl
      have HBf : Hid (bef s hub (k + 1) = rad s k) := Lib.hid (bef_succ s hub k)
      obtain ⟨x, hx⟩ : ∃ x, x = rad s k := ⟨_, rfl⟩
      obtain ⟨y, hy⟩ : ∃ x, x = chd s k := ⟨_, rfl⟩
      obtain ⟨z, hz⟩ : ∃ x, x = twi s k := ⟨_, rfl⟩
      obtain ⟨p, hp⟩ : ∃ x, x = bef s hub k := ⟨_, rfl⟩
      rw [← hp]
      rw [show s.getD (k * 3) 0 = x from hx.symm] at hc0
      rw [show s.getD (k * 3 + 1) 0 = y from hy.symm] at hc1
      rw [show s.getD (k * 3 + 2) 0 = z from hz.symm] at hc2
      rw [← hx, ← hy, ← hz, ← hp] at HE
      rw [← hx] at HBf
      clear hx hy hz hp
      cases g1 : (FloatKind.f32.format.order x p == some .gt)
      · have HN : Hid (sts s hub tip n = false) := Lib.hid (HNo.out (by rw [HA.out, HE.out]; unfold gtr32; rw [g1]; rfl))
        go_wp2
        go_ret
        exact ⟨by rw [HN.out]; rfl, HB.out.alloc HB.out.size _⟩
      · cases g2 : (FloatKind.f32.format.order x tip == some .lt)
        · have HN : Hid (sts s hub tip n = false) := Lib.hid (HNo.out (by rw [HA.out, HE.out]; unfold gtr32 lss32; rw [g1, g2]; rfl))
          go_wp2
          go_ret
          exact ⟨by rw [HN.out]; rfl, HB.out.alloc HB.out.size _⟩
        · cases f1 : posi y
          · have HN : Hid (sts s hub tip n = false) := Lib.hid (HNo.out (by rw [HA.out, HE.out]; rw [f1]; simp))
            have F1 := Lib.hid f1; clear f1
            go_wp2_with fail
            refine (i_isPositive _ _).mono ?_
            rintro e w' ⟨m, rfl, rfl⟩
            rw [F1.out]
            go_wp2
            go_ret
            exact ⟨by rw [HN.out]; rfl, below_draws (HB.out.alloc HB.out.size _) _⟩
          · have F1 := Lib.hid f1; clear f1
            cases f2 : fin .f32 z
            · have HN : Hid (sts s hub tip n = false) := Lib.hid (HNo.out (by rw [HA.out, HE.out]; rw [f2]; simp))
              have F2 := Lib.hid f2; clear f2
              go_wp2_with fail
              refine (i_isPositive _ _).mono ?_
              rintro e w' ⟨m, rfl, rfl⟩
              rw [F1.out]
              go_wp2_with fail
              refine (i_IsFinite _ _).mono ?_
              rintro e w' ⟨m2, rfl, rfl⟩
              rw [F2.out]
              go_wp2
              go_ret
              exact ⟨by rw [HN.out]; rfl, by first | exact below_draws (HB.out.alloc HB.out.size _) _ | exact below_draws (below_draws (HB.out.alloc HB.out.size _) _) _⟩
            · have F2 := Lib.hid f2; clear f2
              have HZ : Hid (sts s hub tip (k + 1) = true) := Lib.hid (by rw [HA.out, HE.out]; unfold gtr32 lss32; rw [g1, g2, F1.out, F2.out]; rfl)
              go_wp2_with fail
              refine (i_isPositive _ _).mono ?_
              rintro e w' ⟨m, rfl, rfl⟩
              rw [F1.out]
              go_wp2_with fail
              refine (i_IsFinite _ _).mono ?_
              rintro e w' ⟨m2, rfl, rfl⟩
              rw [F2.out]
              go_wp2
              go_roundw
              case rel => exact ⟨k + 1, by omega, by go_num, by rw [HBf.out], HZ, Lib.hid (by first | exact below_draws (HB.out.alloc HB.out.size _) _ | exact below_draws (below_draws (HB.out.alloc HB.out.size _) _) _)⟩
              case measure => simp [intOf]; omega
    · have hkk : k = n := by omega
      subst hkk
      go_wp2
      go_ret
      exact ⟨by rw [hr.out]; rfl, HB.out⟩
set_option maxHeartbeats 8000000 in
theorem i_ValidRotor (A L D S : Option Addr) (ca cl cd n cs : Nat) (c : Int) (hub tip : Nat) (a l d s : List Nat) (w : World) (h : Rt w A L D S a l d s) (hn : FewR a l d s n) :
    Calls Tryz.prog 41 #[.agg #[.slice A a.length ca, .slice L l.length cl, .slice D d.length cd, .slice S n cs, .int .i64 c, .float .f32 hub, .float .f32 tip]] w fun e w' => e = .returned (.bool (validR a l d s n c hub tip)) ∧ Below w.heap.size w w' := by
  obtain ⟨hP, hS⟩ := h
  have HP := Lib.hid hP; clear hP
  have HS := Lib.hid hS; clear hS
  have hn1 := hn.1
  have hn2 : n ≤ 1048576 := by have := hn.2; omega
  have HN := Lib.hid hn.few; clear hn
  have HB : ∀ o1, Hid (Below w.heap.size w (w.alloc o1)) := fun _ => Lib.hid ((Below.refl _ _).alloc (Nat.le_refl _) _)
  cases v : validP a l d
  · have HV : Hid (validR a l d s n c hub tip = false) := Lib.hid (validR_p v)
    have V := Lib.hid v; clear v
    go_enter Tryz.func41, Tryz.ntmps41
    go_wp2_with fail
    refine (i_ValidProfile A L D ca cl cd a l d _ (HP.out.below (HB _).out) HN.out).mono ?_
    rintro e w1 ⟨rfl, b1⟩
    rw [V.out]
    have B1 : Hid (Below w.heap.size w w1) := Lib.hid (below_of (HB _).out (by simp) b1)
    clear b1
    go_wp2
    go_ret
    exact ⟨by rw [HV.out]; rfl, B1.out⟩
  · have V := Lib.hid v; clear v
    by_cases hc1 : c < 1
    · have HV : Hid (validR a l d s n c hub tip = false) := Lib.hid (validR_z (by unfold sizedR; omega))
      go_enter Tryz.func41, Tryz.ntmps41
      go_wp2_with fail
      refine (i_ValidProfile A L D ca cl cd a l d _ (HP.out.below (HB _).out) HN.out).mono ?_
      rintro e w1 ⟨rfl, b1⟩
      rw [V.out]
      have K1 : Hid (Blk7 w1 w.heap.size A L D S a l d ca cl cd n cs c hub tip) := Lib.hid (Blk7.below (blk7_at w A L D S a l d ca cl cd n cs c hub tip _ rfl) b1)
      have B1 : Hid (Below w.heap.size w w1) := Lib.hid (below_of (HB _).out (by simp) b1)
      clear b1
      obtain ⟨k0, k1, k2, k3, k4, k5, k6⟩ := K1.out.limbs
      go_wp2
      go_ret
      exact ⟨by rw [HV.out]; rfl, B1.out⟩
    · by_cases hc2 : 6 < c
      · have HV : Hid (validR a l d s n c hub tip = false) := Lib.hid (validR_z (by unfold sizedR; omega))
        go_enter Tryz.func41, Tryz.ntmps41
        go_wp2_with fail
        refine (i_ValidProfile A L D ca cl cd a l d _ (HP.out.below (HB _).out) HN.out).mono ?_
        rintro e w1 ⟨rfl, b1⟩
        rw [V.out]
        have K1 : Hid (Blk7 w1 w.heap.size A L D S a l d ca cl cd n cs c hub tip) := Lib.hid (Blk7.below (blk7_at w A L D S a l d ca cl cd n cs c hub tip _ rfl) b1)
        have B1 : Hid (Below w.heap.size w w1) := Lib.hid (below_of (HB _).out (by simp) b1)
        clear b1
        obtain ⟨k0, k1, k2, k3, k4, k5, k6⟩ := K1.out.limbs
        go_wp2
        go_ret
        exact ⟨by rw [HV.out]; rfl, B1.out⟩
      · cases u : amount hub
        · have HV : Hid (validR a l d s n c hub tip = false) := Lib.hid (validR_h u)
          have U := Lib.hid u; clear u
          go_enter Tryz.func41, Tryz.ntmps41
          go_wp2_with fail
          refine (i_ValidProfile A L D ca cl cd a l d _ (HP.out.below (HB _).out) HN.out).mono ?_
          rintro e w1 ⟨rfl, b1⟩
          rw [V.out]
          have K1 : Hid (Blk7 w1 w.heap.size A L D S a l d ca cl cd n cs c hub tip) := Lib.hid (Blk7.below (blk7_at w A L D S a l d ca cl cd n cs c hub tip _ rfl) b1)
          have B1 : Hid (Below w.heap.size w w1) := Lib.hid (below_of (HB _).out (by simp) b1)
          clear b1
          obtain ⟨k0, k1, k2, k3, k4, k5, k6⟩ := K1.out.limbs
          go_wp2_with fail
          refine (i_notAmount _ _).mono ?_
          rintro e w' ⟨m, rfl, rfl⟩
          rw [U.out]
          go_wp2
          go_ret
          exact ⟨by rw [HV.out]; rfl, below_draws B1.out _⟩
        · have U := Lib.hid u; clear u
          cases t : fin .f32 tip
          · have HV : Hid (validR a l d s n c hub tip = false) := Lib.hid (validR_t t)
            have T := Lib.hid t; clear t
            go_enter Tryz.func41, Tryz.ntmps41
            go_wp2_with fail
            refine (i_ValidProfile A L D ca cl cd a l d _ (HP.out.below (HB _).out) HN.out).mono ?_
            rintro e w1 ⟨rfl, b1⟩
            rw [V.out]
            have K1 : Hid (Blk7 w1 w.heap.size A L D S a l d ca cl cd n cs c hub tip) := Lib.hid (Blk7.below (blk7_at w A L D S a l d ca cl cd n cs c hub tip _ rfl) b1)
            have B1 : Hid (Below w.heap.size w w1) := Lib.hid (below_of (HB _).out (by simp) b1)
            clear b1
            obtain ⟨k0, k1, k2, k3, k4, k5, k6⟩ := K1.out.limbs
            go_wp2_with fail
            refine (i_notAmount _ _).mono ?_
            rintro e w' ⟨m, rfl, rfl⟩
            rw [U.out]
            go_wp2_with fail
            refine (i_IsFinite _ _).mono ?_
            rintro e w' ⟨m2, rfl, rfl⟩
            rw [T.out]
            go_wp2
            go_ret
            exact ⟨by rw [HV.out]; rfl, below_draws B1.out _⟩
          · have T := Lib.hid t; clear t
            by_cases hn3 : n < 2
            · have HV : Hid (validR a l d s n c hub tip = false) := Lib.hid (validR_z (by unfold sizedR; omega))
              go_enter Tryz.func41, Tryz.ntmps41
              go_wp2_with fail
              refine (i_ValidProfile A L D ca cl cd a l d _ (HP.out.below (HB _).out) HN.out).mono ?_
              rintro e w1 ⟨rfl, b1⟩
              rw [V.out]
              have K1 : Hid (Blk7 w1 w.heap.size A L D S a l d ca cl cd n cs c hub tip) := Lib.hid (Blk7.below (blk7_at w A L D S a l d ca cl cd n cs c hub tip _ rfl) b1)
              have B1 : Hid (Below w.heap.size w w1) := Lib.hid (below_of (HB _).out (by simp) b1)
              clear b1
              obtain ⟨k0, k1, k2, k3, k4, k5, k6⟩ := K1.out.limbs
              go_wp2_with fail
              refine (i_notAmount _ _).mono ?_
              rintro e w' ⟨m, rfl, rfl⟩
              rw [U.out]
              go_wp2_with fail
              refine (i_IsFinite _ _).mono ?_
              rintro e w' ⟨m2, rfl, rfl⟩
              rw [T.out]
              go_wp2
              go_ret
              exact ⟨by rw [HV.out]; rfl, below_draws B1.out _⟩
            · by_cases hn4 : 12 < n
              · have HV : Hid (validR a l d s n c hub tip = false) := Lib.hid (validR_z (by unfold sizedR; omega))
                go_enter Tryz.func41, Tryz.ntmps41
                go_wp2_with fail
                refine (i_ValidProfile A L D ca cl cd a l d _ (HP.out.below (HB _).out) HN.out).mono ?_
                rintro e w1 ⟨rfl, b1⟩
                rw [V.out]
                have K1 : Hid (Blk7 w1 w.heap.size A L D S a l d ca cl cd n cs c hub tip) := Lib.hid (Blk7.below (blk7_at w A L D S a l d ca cl cd n cs c hub tip _ rfl) b1)
                have B1 : Hid (Below w.heap.size w w1) := Lib.hid (below_of (HB _).out (by simp) b1)
                clear b1
                obtain ⟨k0, k1, k2, k3, k4, k5, k6⟩ := K1.out.limbs
                go_wp2_with fail
                refine (i_notAmount _ _).mono ?_
                rintro e w' ⟨m, rfl, rfl⟩
                rw [U.out]
                go_wp2_with fail
                refine (i_IsFinite _ _).mono ?_
                rintro e w' ⟨m2, rfl, rfl⟩
                rw [T.out]
                go_wp2
                go_ret
                exact ⟨by rw [HV.out]; rfl, below_draws B1.out _⟩
              · have HV : Hid (validR a l d s n c hub tip = sts s hub tip n) := Lib.hid (validR_yes V.out (by unfold sizedR; omega) U.out T.out)
                go_enter Tryz.func41, Tryz.ntmps41
                go_wp2_with fail
                refine (i_ValidProfile A L D ca cl cd a l d _ (HP.out.below (HB _).out) HN.out).mono ?_
                rintro e w1 ⟨rfl, b1⟩
                rw [V.out]
                have K1 : Hid (Blk7 w1 w.heap.size A L D S a l d ca cl cd n cs c hub tip) := Lib.hid (Blk7.below (blk7_at w A L D S a l d ca cl cd n cs c hub tip _ rfl) b1)
                have B1 : Hid (Below w.heap.size w w1) := Lib.hid (below_of (HB _).out (by simp) b1)
                clear b1
                obtain ⟨k0, k1, k2, k3, k4, k5, k6⟩ := K1.out.limbs
                go_wp2_with fail
                refine (i_notAmount _ _).mono ?_
                rintro e w' ⟨m, rfl, rfl⟩
                rw [U.out]
                go_wp2_with fail
                refine (i_IsFinite _ _).mono ?_
                rintro e w' ⟨m2, rfl, rfl⟩
                rw [T.out]
                go_wp2_with fail
                refine (i_areStations S n cs s hub tip _ (HS.out.below (below_draws B1.out _)) hn1 hn2).mono ?_
                rintro e w2 ⟨rfl, b2⟩
                have B2 : Hid (Below w.heap.size w w2) := Lib.hid (below_of (below_draws B1.out _) (by exact B1.out.size) b2)
                clear b2
                go_wp2
                go_ret
                exact ⟨by rw [HV.out]; rfl, B2.out⟩
end Go.Proofs.YtahbcpjipomcgaaGreat
