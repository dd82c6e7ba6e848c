/- What makes a rotor valid: the specification's side. No statement is proved here. -/
import Derived.Test.YtahbcpjipomcgaaGreatValR
namespace Go.Proofs.YtahbcpjipomcgaaGreat
open Go Go.RowKit
/-- a quiet call behind draws that are counted already -/
theorem quietR {P : Program} {f : FuncId} {args : Array Value} {w : World} {a n : Nat} {v : Value} (h : Calls P f args (w.drewN (a + n)) fun e w' => e = .returned v ∧ ∃ m, w' = (w.drewN (a + n)).drewN m) :
    Calls P f args (w.drewN (a + n)) fun e w'' => e = .returned v ∧ ∃ m, w'' = w.drewN (a + m) := by
  refine h.mono ?_
  rintro e w' ⟨he, m, hm⟩
  exact ⟨he, n + m, by rw [hm, World.drewN_drewN, Nat.add_assoc]⟩
set_option maxHeartbeats 16000000 in
set_option maxRecDepth 100000 in
theorem s_l03Is (A L D S : Option Addr) (ca cl cd n cs : Nat) (c : Int) (hub tip : Nat) (a l d s : List Nat) (B : Nat) (w : World) (h : Rt w A L D S a l d s) (hn : FewR a l d s n) (hk : Blk7 w B A L D S a l d ca cl cd n cs c hub tip) :
    Calls Tryz.prog 60 #[.pointer (some ⟨B, 0, none⟩)] w fun e w' => e = .returned (.bool (validR a l d s n c hub tip)) ∧ Below w.heap.size w w' := by
  obtain ⟨hP, hS⟩ := h
  have HP := Lib.hid hP; clear hP
  have HS := Lib.hid hS; clear hS
  have hn1 := hn.1
  have hn2 : n ≤ 1048576 := by have := hn.2; omega
  have HN := Lib.hid hn.few; clear hn
  have HK := Lib.hid hk
  have H3 := Lib.hid hk.blk3
  obtain ⟨k0, k1, k2, k3, k4, k5, k6⟩ := hk.limbs
  clear hk
  have HB : Hid (Below w.heap.size w w) := Lib.hid (Below.refl _ _)
  cases v : validP a l d
  · have HV : Hid (validR a l d s n c hub tip = false) := Lib.hid (validR_p v)
    have V := Lib.hid v; clear v
    go_enter Tryz.func60, Tryz.ntmps60
    go_wp2_with fail
    refine (s_l02Is A L D ca cl cd a l d B _ HP.out H3.out HN.out).mono ?_
    rintro e w' ⟨m0, rfl, rfl⟩
    rw [V.out]
    go_wp2
    go_ret
    exact ⟨by rw [HV.out]; rfl, by first | exact HB.out | exact below_draws HB.out _ | exact below_draws (below_draws HB.out _) _ | exact below_draws (below_draws (below_draws HB.out _) _) _⟩
  · have V := Lib.hid v; clear v
    by_cases hn3 : n < 2
    · have HV : Hid (validR a l d s n c hub tip = false) := Lib.hid (validR_z (by unfold sizedR; omega))
      go_enter Tryz.func60, Tryz.ntmps60
      go_wp2_with fail
      refine (s_l02Is A L D ca cl cd a l d B _ HP.out H3.out HN.out).mono ?_
      rintro e w' ⟨m0, rfl, rfl⟩
      rw [V.out]
      go_wp2
      go_ret
      exact ⟨by rw [HV.out]; rfl, by first | exact HB.out | exact below_draws HB.out _ | exact below_draws (below_draws HB.out _) _ | exact below_draws (below_draws (below_draws HB.out _) _) _⟩
    · by_cases hn4 : 12 < n
      · have HV : Hid (validR a l d s n c hub tip = false) := Lib.hid (validR_z (by unfold sizedR; omega))
        go_enter Tryz.func60, Tryz.ntmps60
        go_wp2_with fail
        refine (s_l02Is A L D ca cl cd a l d B _ HP.out H3.out HN.out).mono ?_
        rintro e w' ⟨m0, rfl, rfl⟩
        rw [V.out]
        go_wp2
        go_ret
        exact ⟨by rw [HV.out]; rfl, by first | exact HB.out | exact below_draws HB.out _ | exact below_draws (below_draws HB.out _) _ | exact below_draws (below_draws (below_draws HB.out _) _) _⟩
      · cases cc : (decide ((1 : Int) ≤ c) && decide (c ≤ 6))
        · have CC := Lib.hid cc
          have HV : Hid (validR a l d s n c hub tip = false) := Lib.hid (validR_z (by unfold sizedR; intro hh; rw [decide_eq_true hh.1, decide_eq_true hh.2.1] at cc; cases cc))
          clear cc
          go_enter Tryz.func60, Tryz.ntmps60
          go_wp2_with fail
          refine (s_l02Is A L D ca cl cd a l d B _ HP.out H3.out HN.out).mono ?_
          rintro e w' ⟨m0, rfl, rfl⟩
          rw [V.out]
          go_wp2_with fail
          refine (s_l00In _ _ _ _).mono ?_
          rintro e w' ⟨rfl, rfl⟩
          rw [show (decide ((1 : Int) ≤ c) && decide (c ≤ 6)) = _ from CC.out]
          go_wp2
          go_ret
          exact ⟨by rw [HV.out]; rfl, by first | exact HB.out | exact below_draws HB.out _ | exact below_draws (below_draws HB.out _) _ | exact below_draws (below_draws (below_draws HB.out _) _) _⟩
        · have CC := Lib.hid cc
          have hz : sizedR c n := by rw [Bool.and_eq_true] at cc; exact ⟨of_decide_eq_true cc.1, of_decide_eq_true cc.2, by omega, by omega⟩
          have HZ := Lib.hid hz; clear hz cc
          cases u : amount hub
          · have HV : Hid (validR a l d s n c hub tip = false) := Lib.hid (validR_h u)
            have U := Lib.hid u; clear u
            go_enter Tryz.func60, Tryz.ntmps60
            go_wp2_with fail
            refine (s_l02Is A L D ca cl cd a l d B _ HP.out H3.out HN.out).mono ?_
            rintro e w' ⟨m0, rfl, rfl⟩
            rw [V.out]
            go_wp2_with fail
            refine (s_l00In _ _ _ _).mono ?_
            rintro e w' ⟨rfl, rfl⟩
            rw [show (decide ((1 : Int) ≤ c) && decide (c ≤ 6)) = _ from CC.out]
            go_wp2_with fail
            refine (s_l02Least _ _).mono ?_
            rintro e w' ⟨m1, rfl, rfl⟩
            rw [U.out]
            go_wp2
            go_ret
            exact ⟨by rw [HV.out]; rfl, by first | exact HB.out | exact below_draws HB.out _ | exact below_draws (below_draws HB.out _) _ | exact below_draws (below_draws (below_draws HB.out _) _) _⟩
          · have U := Lib.hid u; clear u
            cases t : fin .f32 tip
            · have HV : Hid (validR a l d s n c hub tip = false) := Lib.hid (validR_t t)
              have T := Lib.hid t; clear t
              go_enter Tryz.func60, Tryz.ntmps60
              go_wp2_with fail
              refine (s_l02Is A L D ca cl cd a l d B _ HP.out H3.out HN.out).mono ?_
              rintro e w' ⟨m0, rfl, rfl⟩
              rw [V.out]
              go_wp2_with fail
              refine (s_l00In _ _ _ _).mono ?_
              rintro e w' ⟨rfl, rfl⟩
              rw [show (decide ((1 : Int) ≤ c) && decide (c ≤ 6)) = _ from CC.out]
              go_wp2_with fail
              refine (s_l02Least _ _).mono ?_
              rintro e w' ⟨m1, rfl, rfl⟩
              rw [U.out]
              go_wp2_with fail
              refine (s_l01Finite _ _).mono ?_
              rintro e w' ⟨m2, rfl, rfl⟩
              rw [T.out]
              go_wp2
              go_ret
              exact ⟨by rw [HV.out]; rfl, by first | exact HB.out | exact below_draws HB.out _ | exact below_draws (below_draws HB.out _) _ | exact below_draws (below_draws (below_draws HB.out _) _) _⟩
            · have T := Lib.hid t; clear t
              have HV : Hid (validR a l d s n c hub tip = sts s hub tip n) := Lib.hid (validR_yes V.out HZ.out U.out T.out)
              go_enter Tryz.func60, Tryz.ntmps60
              go_wp2_with fail
              refine (s_l02Is A L D ca cl cd a l d B _ HP.out H3.out HN.out).mono ?_
              rintro e w' ⟨m0, rfl, rfl⟩
              rw [V.out]
              go_wp2_with fail
              refine (s_l00In _ _ _ _).mono ?_
              rintro e w' ⟨rfl, rfl⟩
              rw [show (decide ((1 : Int) ≤ c) && decide (c ≤ 6)) = _ from CC.out]
              go_wp2_with fail
              refine (s_l02Least _ _).mono ?_
              rintro e w' ⟨m1, rfl, rfl⟩
              rw [U.out]
              go_wp2_with fail
              refine (s_l01Finite _ _).mono ?_
              rintro e w' ⟨m2, rfl, rfl⟩
              rw [T.out]
              go_wp2
              clear k0 k1 k2 k3 k4 k5 k6
              go_loopw [4, 58] (fun b i wr => ∃ k : Nat, k ≤ n ∧ i = .int .i64 k ∧ b = .float .f32 (bef s hub k) ∧ Hid (sts s hub tip k = true) ∧ Hid (Below w.heap.size w wr)) (fun _ i _ => n - (intOf i).toNat)
              case atStart => exact ⟨0, Nat.zero_le _, rfl, rfl, rfl, Lib.hid (by first | exact HB.out | exact below_draws HB.out _ | exact below_draws (below_draws HB.out _) _ | exact below_draws (below_draws (below_draws HB.out _) _) _)⟩
              case round =>
                obtain ⟨k, hk, rfl, rfl, hr, HB⟩ := hrel
                obtain ⟨k0, k1, k2, k3, k4, k5, k6⟩ := (HK.out.below HB.out).limbs
                by_cases hlt : k < n
                · have hF := HS.out.below HB.out
                  obtain ⟨b, off, rfl, hb, hc0⟩ := hF.at_ (k := k * 3) (by omega)
                  have hc1 := hF.same rfl (k := k * 3 + 1) (by omega)
                  have hc2 := hF.same rfl (k := k * 3 + 2) (by omega)
                  rw [← Nat.add_assoc] at hc1 hc2
                  clear hF hb
                  have HA : Hid (sts s hub tip (k + 1) = stStep s hub tip k) := by show _ = _; simp only [sts, hr.out, Bool.true_and]
                  have HNo : Hid (sts s hub tip (k + 1) = false → validR a l d s n c hub tip = false) := Lib.hid (fun h => by rw [HV.out]; exact sts_no h (by omega))
                  have HE : Hid (stStep s hub tip k = ((gtr32 (rad s k) (bef s hub k) && lss32 (rad s k) tip) && (posi (chd s k) && fin .f32 (twi s k)))) := rfl
                  have HBf : Hid (bef s hub (k + 1) = rad s k) := Lib.hid (bef_succ s hub k)
                  obtain ⟨x, hx⟩ : ∃ x, x = rad s k := ⟨_, rfl⟩
                  obtain ⟨y, hy⟩ : ∃ x, x = chd s k := ⟨_, rfl⟩
                  obtain ⟨z, hz⟩ : ∃ x, x = twi s k := ⟨_, rfl⟩
                  obtain ⟨p, hp⟩ : ∃ x, x = bef s hub k := ⟨_, rfl⟩
                  rw [← hp]
                  rw [show s.getD (k * 3) 0 = x from hx.symm] at hc0
                  rw [show s.getD (k * 3 + 1) 0 = y from hy.symm] at hc1
                  rw [show s.getD (k * 3 + 2) 0 = z from hz.symm] at hc2
                  rw [← hx, ← hy, ← hz, ← hp] at HE
                  rw [← hx] at HBf
                  clear hx hy hz hp
                  cases g1 : (FloatKind.f32.format.order x p == some .gt)
                  · have HN2 : Hid (validR a l d s n c hub tip = false) := Lib.hid (HNo.out (by rw [HA.out, HE.out]; unfold gtr32; rw [g1]; rfl))
                    go_wp2_with fail
                    clear k0 k1 k2 k3 k4 k5 k6 hc0 hc1 hc2
                    have kS := blk3_new wr (.float .f32 x) (.float .f32 y) (.float .f32 z) 68
                    have HB2 : Hid (Below w.heap.size w (wr.alloc (.cells #[.float .f32 x, .float .f32 y, .float .f32 z] 68))) := Lib.hid (HB.out.alloc HB.out.size _)
                    generalize wr.alloc (.cells #[.float .f32 x, .float .f32 y, .float .f32 z] 68) = w2 at kS HB2
                    generalize wr.heap.size = bs at kS
                    obtain ⟨-, ⟨s0, s1, s2⟩, -, -, -⟩ := kS
                    obtain ⟨k0, k1, k2, k3, k4, k5, k6⟩ := (HK.out.below HB2.out).limbs
                    go_quiet (fail)
                    go_wp2
                    go_ret
                    exact ⟨by rw [HN2.out]; rfl, by first | exact HB2.out | exact below_draws HB2.out _ | exact below_draws (below_draws HB2.out _) _⟩
                  · cases g2 : (FloatKind.f32.format.order x tip == some .lt)
                    · have HN2 : Hid (validR a l d s n c hub tip = false) := Lib.hid (HNo.out (by rw [HA.out, HE.out]; unfold gtr32 lss32; rw [g1, g2]; rfl))
                      go_wp2_with fail
                      clear k0 k1 k2 k3 k4 k5 k6 hc0 hc1 hc2
                      have kS := blk3_new wr (.float .f32 x) (.float .f32 y) (.float .f32 z) 68
                      have HB2 : Hid (Below w.heap.size w (wr.alloc (.cells #[.float .f32 x, .float .f32 y, .float .f32 z] 68))) := Lib.hid (HB.out.alloc HB.out.size _)
                      generalize wr.alloc (.cells #[.float .f32 x, .float .f32 y, .float .f32 z] 68) = w2 at kS HB2
                      generalize wr.heap.size = bs at kS
                      obtain ⟨-, ⟨s0, s1, s2⟩, -, -, -⟩ := kS
                      obtain ⟨k0, k1, k2, k3, k4, k5, k6⟩ := (HK.out.below HB2.out).limbs
                      go_quiet (fail)
                      go_wp2
                      go_ret
                      exact ⟨by rw [HN2.out]; rfl, by first | exact HB2.out | exact below_draws HB2.out _ | exact below_draws (below_draws HB2.out _) _⟩
                    · cases f1 : posi y
                      · have HN2 : Hid (validR a l d s n c hub tip = false) := Lib.hid (HNo.out (by rw [HA.out, HE.out]; rw [f1]; simp))
                        have F1 := Lib.hid f1; clear f1
                        go_wp2_with fail
                        clear k0 k1 k2 k3 k4 k5 k6 hc0 hc1 hc2
                        have kS := blk3_new wr (.float .f32 x) (.float .f32 y) (.float .f32 z) 68
                        have HB2 : Hid (Below w.heap.size w (wr.alloc (.cells #[.float .f32 x, .float .f32 y, .float .f32 z] 68))) := Lib.hid (HB.out.alloc HB.out.size _)
                        generalize wr.alloc (.cells #[.float .f32 x, .float .f32 y, .float .f32 z] 68) = w2 at kS HB2
                        generalize wr.heap.size = bs at kS
                        obtain ⟨-, ⟨s0, s1, s2⟩, -, -, -⟩ := kS
                        obtain ⟨k0, k1, k2, k3, k4, k5, k6⟩ := (HK.out.below HB2.out).limbs
                        go_quiet ((go_at_call 61; refine Calls.quiet_of (v := .bool false) ((s_l02Above y _).mono ?_); rintro e w' ⟨m, rfl, rfl⟩; exact ⟨by rw [F1.out], m, rfl⟩))
                        go_wp2
                        go_ret
                        exact ⟨by rw [HN2.out]; rfl, by first | exact below_draws HB2.out _ | exact below_draws (below_draws HB2.out _) _ | exact below_draws (below_draws (below_draws HB2.out _) _) _⟩
                      · have F1 := Lib.hid f1; clear f1
                        cases f2 : fin .f32 z
                        · have HN2 : Hid (validR a l d s n c hub tip = false) := Lib.hid (HNo.out (by rw [HA.out, HE.out]; rw [f2]; simp))
                          have F2 := Lib.hid f2; clear f2
                          go_wp2_with fail
                          clear k0 k1 k2 k3 k4 k5 k6 hc0 hc1 hc2
                          have kS := blk3_new wr (.float .f32 x) (.float .f32 y) (.float .f32 z) 68
                          have HB2 : Hid (Below w.heap.size w (wr.alloc (.cells #[.float .f32 x, .float .f32 y, .float .f32 z] 68))) := Lib.hid (HB.out.alloc HB.out.size _)
                          generalize wr.alloc (.cells #[.float .f32 x, .float .f32 y, .float .f32 z] 68) = w2 at kS HB2
                          generalize wr.heap.size = bs at kS
                          obtain ⟨-, ⟨s0, s1, s2⟩, -, -, -⟩ := kS
                          obtain ⟨k0, k1, k2, k3, k4, k5, k6⟩ := (HK.out.below HB2.out).limbs
                          go_quiet (first | (go_at_call 61; refine Calls.quiet_of (v := .bool true) ((s_l02Above y _).mono ?_); rintro e w' ⟨m, rfl, rfl⟩; exact ⟨by rw [F1.out], m, rfl⟩) | (go_at_call 62; refine Calls.quiet_of (v := .bool false) ((s_l01Finite z _).mono ?_); rintro e w' ⟨m, rfl, rfl⟩; exact ⟨by rw [F2.out], m, rfl⟩))
                          go_wp2
                          go_ret
                          exact ⟨by rw [HN2.out]; rfl, by first | exact below_draws HB2.out _ | exact below_draws (below_draws HB2.out _) _ | exact below_draws (below_draws (below_draws HB2.out _) _) _⟩
                        · have F2 := Lib.hid f2; clear f2
                          have HZ2 : Hid (sts s hub tip (k + 1) = true) := Lib.hid (by rw [HA.out, HE.out]; unfold gtr32 lss32; rw [g1, g2, F1.out, F2.out]; rfl)
                          go_wp2_with fail
                          clear k0 k1 k2 k3 k4 k5 k6 hc0 hc1 hc2
                          have kS := blk3_new wr (.float .f32 x) (.float .f32 y) (.float .f32 z) 68
                          have HB2 : Hid (Below w.heap.size w (wr.alloc (.cells #[.float .f32 x, .float .f32 y, .float .f32 z] 68))) := Lib.hid (HB.out.alloc HB.out.size _)
                          generalize wr.alloc (.cells #[.float .f32 x, .float .f32 y, .float .f32 z] 68) = w2 at kS HB2
                          generalize wr.heap.size = bs at kS
                          obtain ⟨-, ⟨s0, s1, s2⟩, -, -, -⟩ := kS
                          obtain ⟨k0, k1, k2, k3, k4, k5, k6⟩ := (HK.out.below HB2.out).limbs
                          go_quiet (first | (go_at_call 61; refine Calls.quiet_of (v := .bool true) ((s_l02Above y _).mono ?_); rintro e w' ⟨m, rfl, rfl⟩; exact ⟨by rw [F1.out], m, rfl⟩) | (go_at_call 62; refine Calls.quiet_of (v := .bool true) ((s_l01Finite z _).mono ?_); rintro e w' ⟨m, rfl, rfl⟩; exact ⟨by rw [F2.out], m, rfl⟩))
                          go_wp2
                          go_roundw
                          case rel => exact ⟨k + 1, by omega, by go_num, by rw [HBf.out], HZ2, Lib.hid (by first | exact below_draws HB2.out _ | exact below_draws (below_draws HB2.out _) _ | exact below_draws (below_draws (below_draws HB2.out _) _) _)⟩
                          case measure => simp [intOf]; omega
                · have hkk : k = n := by omega
                  subst hkk
                  go_wp2
                  go_ret
                  exact ⟨by rw [HV.out, hr.out]; rfl, HB.out⟩
end Go.Proofs.YtahbcpjipomcgaaGreat
