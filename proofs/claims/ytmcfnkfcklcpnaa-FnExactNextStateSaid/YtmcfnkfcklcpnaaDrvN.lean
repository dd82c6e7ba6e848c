/- NextState: both sides. No statement is proved here. -/
import Derived.Test.YtmcfnkfcklcpnaaDrv
import Derived.Test.YtmcfnkfcklcpnaaFsure
namespace Go.Proofs.Ytmcfnkfcklcpnaa
open Go Go.RowKit
/-- the state that comes; hh: half of what is least -/
def nextS (hh p3 p5 p6 : Nat) (st : Int) (sp wi : Nat) : Int :=
  bif decide (st = 0) then (bif geq32 wi p5 && lss32 wi p6 then 1 else 0)
  else bif decide (st = 1) then (bif geq32 wi p6 then 3 else bif geq32 sp p3 then 2 else 1)
  else bif decide (st = 2) then (bif geq32 wi p6 || lss32 sp hh then 3 else 2)
  else bif decide (st = 3) then (bif leq32 sp 1008981770 then 0 else 3) else st
/-- a state is one of five -/
theorem stateV_cases {st : Int} (h : stateV st = true) : st = 0 ∨ st = 1 ∨ st = 2 ∨ st = 3 ∨ st = 4 := by
  unfold stateV at h
  rw [Bool.and_eq_true, decide_eq_true_eq, decide_eq_true_eq] at h
  omega
set_option maxHeartbeats 8000000 in
theorem i_stateBehind (p0 p1 p2 p3 p4 p5 p6 p7 : Nat) (st : Int) (sp pi en : Nat) (wi hh : Nat) (w : World) (hs0 : ∀ w, fopV .mul .f32 1056964608 p3 w = hh) (hsN : fopN .mul .f32 1056964608 p3 = 0) (hst : stateV st = true) :
    Calls Try.prog 60 #[.agg #[.float .f32 p0, .float .f32 p1, .float .f32 p2, .float .f32 p3, .float .f32 p4, .float .f32 p5, .float .f32 p6, .float .f32 p7, .int .i64 st, .float .f32 sp, .float .f32 pi, .float .f32 en], .float .f32 wi] w fun e w' => e = .returned (.int .i64 (nextS hh p3 p5 p6 st sp wi)) ∧ Below w.heap.size w w' := by
  have HB : ∀ o1 o2, Hid (Below w.heap.size w ((w.alloc o1).alloc o2)) := fun _ _ => Lib.hid (((Below.refl _ _).alloc (Nat.le_refl _) _).alloc (by simp) _)
  have h := stateV_cases hst
  clear hst
  rcases h with rfl | rfl | rfl | rfl | rfl
  · skip
    cases q0 : (FloatKind.f32.format.order wi p5 == some .gt || FloatKind.f32.format.order wi p5 == some .eq)
    · skip
      go_enter Try.func60, Try.ntmps60
      go_wp2
      go_ret
      exact ⟨by unfold nextS geq32 lss32 leq32; rw [q0]; first | rfl | (rw [Bool.or_true]; rfl), (HB _ _).out⟩
    · skip
      cases q1 : (FloatKind.f32.format.order wi p6 == some .lt)
      · skip
        go_enter Try.func60, Try.ntmps60
        go_wp2
        go_ret
        exact ⟨by unfold nextS geq32 lss32 leq32; rw [q0, q1]; first | rfl | (rw [Bool.or_true]; rfl), (HB _ _).out⟩
      · skip
        go_enter Try.func60, Try.ntmps60
        go_wp2
        go_ret
        exact ⟨by unfold nextS geq32 lss32 leq32; rw [q0, q1]; first | rfl | (rw [Bool.or_true]; rfl), (HB _ _).out⟩
  · skip
    cases q0 : (FloatKind.f32.format.order wi p6 == some .gt || FloatKind.f32.format.order wi p6 == some .eq)
    · skip
      cases q1 : (FloatKind.f32.format.order sp p3 == some .gt || FloatKind.f32.format.order sp p3 == some .eq)
      · skip
        go_enter Try.func60, Try.ntmps60
        go_wp2
        go_ret
        exact ⟨by unfold nextS geq32 lss32 leq32; rw [q0, q1]; first | rfl | (rw [Bool.or_true]; rfl), (HB _ _).out⟩
      · skip
        go_enter Try.func60, Try.ntmps60
        go_wp2
        go_ret
        exact ⟨by unfold nextS geq32 lss32 leq32; rw [q0, q1]; first | rfl | (rw [Bool.or_true]; rfl), (HB _ _).out⟩
    · skip
      go_enter Try.func60, Try.ntmps60
      go_wp2
      go_ret
      exact ⟨by unfold nextS geq32 lss32 leq32; rw [q0]; first | rfl | (rw [Bool.or_true]; rfl), (HB _ _).out⟩
  · skip
    cases q0 : (FloatKind.f32.format.order sp hh == some .lt)
    · skip
      cases q1 : (FloatKind.f32.format.order wi p6 == some .gt || FloatKind.f32.format.order wi p6 == some .eq)
      · skip
        cases q2 : (FloatKind.f32.format.order sp p3 == some .gt || FloatKind.f32.format.order sp p3 == some .eq)
        · skip
          go_enter Try.func60, Try.ntmps60
          go_wp2
          go_ret
          exact ⟨by unfold nextS geq32 lss32 leq32; rw [q0, q1]; first | rfl | (rw [Bool.or_true]; rfl), (HB _ _).out⟩
        · skip
          go_enter Try.func60, Try.ntmps60
          go_wp2
          go_ret
          exact ⟨by unfold nextS geq32 lss32 leq32; rw [q0, q1]; first | rfl | (rw [Bool.or_true]; rfl), (HB _ _).out⟩
      · skip
        go_enter Try.func60, Try.ntmps60
        go_wp2
        go_ret
        exact ⟨by unfold nextS geq32 lss32 leq32; rw [q0, q1]; first | rfl | (rw [Bool.or_true]; rfl), (HB _ _).out⟩
    · skip
      go_enter Try.func60, Try.ntmps60
      go_wp2
      go_ret
      exact ⟨by unfold nextS geq32 lss32 leq32; rw [q0]; first | rfl | (rw [Bool.or_true]; rfl), (HB _ _).out⟩
  · skip
    cases q0 : (FloatKind.f32.format.order sp 1008981770 == some .lt || FloatKind.f32.format.order sp 1008981770 == some .eq)
    · skip
      go_enter Try.func60, Try.ntmps60
      go_wp2
      go_ret
      exact ⟨by unfold nextS geq32 lss32 leq32; rw [q0]; first | rfl | (rw [Bool.or_true]; rfl), (HB _ _).out⟩
    · skip
      go_enter Try.func60, Try.ntmps60
      go_wp2
      go_ret
      exact ⟨by unfold nextS geq32 lss32 leq32; rw [q0]; first | rfl | (rw [Bool.or_true]; rfl), (HB _ _).out⟩
  · skip
    go_enter Try.func60, Try.ntmps60
    go_wp2
    go_ret
    exact ⟨by rfl, (HB _ _).out⟩
set_option maxHeartbeats 8000000 in
theorem s_l05Next (p0 p1 p2 p3 p4 p5 p6 p7 : Nat) (st : Int) (sp pi en : Nat) (wi hh : Nat) (B : Nat) (w : World) (hk : C12 w B p0 p1 p2 p3 p4 p5 p6 p7 st sp pi en) (hs0 : ∀ w, fopV .mul .f32 1056964608 p3 w = hh) (hsN : fopN .mul .f32 1056964608 p3 = 0) (hst : stateV st = true) :
    Calls Try.prog 59 #[.pointer (some ⟨B, 0, none⟩), .float .f32 wi] w fun e w' => e = .returned (.int .i64 (nextS hh p3 p5 p6 st sp wi)) ∧ ∃ n, w' = w.drewN n := by
  obtain ⟨⟨k0, k1, k2, k3, k4, k5, k6, k7⟩, k8, k9, k10, k11⟩ := hk
  have h := stateV_cases hst
  clear hst
  rcases h with rfl | rfl | rfl | rfl | rfl
  · skip
    cases q0 : (FloatKind.f32.format.order wi p5 == some .gt || FloatKind.f32.format.order wi p5 == some .eq)
    · skip
      go_enter Try.func59, Try.ntmps59
      go_wp2
      go_ret
      exact ⟨by unfold nextS geq32 lss32 leq32; rw [q0]; first | rfl | (rw [Bool.or_true]; rfl), by first | exact ⟨0, rfl⟩ | exact ⟨_, rfl⟩⟩
    · skip
      cases q1 : (FloatKind.f32.format.order wi p6 == some .lt)
      · skip
        go_enter Try.func59, Try.ntmps59
        go_wp2
        go_ret
        exact ⟨by unfold nextS geq32 lss32 leq32; rw [q0, q1]; first | rfl | (rw [Bool.or_true]; rfl), by first | exact ⟨0, rfl⟩ | exact ⟨_, rfl⟩⟩
      · skip
        go_enter Try.func59, Try.ntmps59
        go_wp2
        go_ret
        exact ⟨by unfold nextS geq32 lss32 leq32; rw [q0, q1]; first | rfl | (rw [Bool.or_true]; rfl), by first | exact ⟨0, rfl⟩ | exact ⟨_, rfl⟩⟩
  · skip
    cases q0 : (FloatKind.f32.format.order wi p6 == some .gt || FloatKind.f32.format.order wi p6 == some .eq)
    · skip
      cases q1 : (FloatKind.f32.format.order sp p3 == some .gt || FloatKind.f32.format.order sp p3 == some .eq)
      · skip
        go_enter Try.func59, Try.ntmps59
        go_wp2_with fail
        go_quiet (fail)
        go_wp2
        go_ret
        exact ⟨by unfold nextS geq32 lss32 leq32; rw [q0, q1]; first | rfl | (rw [Bool.or_true]; rfl), by first | exact ⟨0, rfl⟩ | exact ⟨_, rfl⟩⟩
      · skip
        go_enter Try.func59, Try.ntmps59
        go_wp2_with fail
        go_quiet (fail)
        go_wp2
        go_ret
        exact ⟨by unfold nextS geq32 lss32 leq32; rw [q0, q1]; first | rfl | (rw [Bool.or_true]; rfl), by first | exact ⟨0, rfl⟩ | exact ⟨_, rfl⟩⟩
    · skip
      go_enter Try.func59, Try.ntmps59
      go_wp2
      go_ret
      exact ⟨by unfold nextS geq32 lss32 leq32; rw [q0]; first | rfl | (rw [Bool.or_true]; rfl), by first | exact ⟨0, rfl⟩ | exact ⟨_, rfl⟩⟩
  · skip
    cases q0 : (FloatKind.f32.format.order wi p6 == some .gt || FloatKind.f32.format.order wi p6 == some .eq)
    · skip
      cases q1 : (FloatKind.f32.format.order sp hh == some .lt)
      · skip
        go_enter Try.func59, Try.ntmps59
        go_wp2_with fail
        go_quiet (fail)
        go_wp2
        go_ret
        exact ⟨by unfold nextS geq32 lss32 leq32; rw [q0, q1]; first | rfl | (rw [Bool.or_true]; rfl), by first | exact ⟨0, rfl⟩ | exact ⟨_, rfl⟩⟩
      · skip
        go_enter Try.func59, Try.ntmps59
        go_wp2_with fail
        go_quiet (fail)
        go_wp2
        go_ret
        exact ⟨by unfold nextS geq32 lss32 leq32; rw [q0, q1]; first | rfl | (rw [Bool.or_true]; rfl), by first | exact ⟨0, rfl⟩ | exact ⟨_, rfl⟩⟩
    · skip
      go_enter Try.func59, Try.ntmps59
      go_wp2_with fail
      go_quiet (fail)
      go_wp2
      go_ret
      exact ⟨by unfold nextS geq32 lss32 leq32; rw [q0]; first | rfl | (rw [Bool.or_true]; rfl), by first | exact ⟨0, rfl⟩ | exact ⟨_, rfl⟩⟩
  · skip
    cases q0 : (FloatKind.f32.format.order sp 1008981770 == some .lt || FloatKind.f32.format.order sp 1008981770 == some .eq)
    · skip
      go_enter Try.func59, Try.ntmps59
      go_wp2
      go_ret
      exact ⟨by unfold nextS geq32 lss32 leq32; rw [q0]; first | rfl | (rw [Bool.or_true]; rfl), by first | exact ⟨0, rfl⟩ | exact ⟨_, rfl⟩⟩
    · skip
      go_enter Try.func59, Try.ntmps59
      go_wp2
      go_ret
      exact ⟨by unfold nextS geq32 lss32 leq32; rw [q0]; first | rfl | (rw [Bool.or_true]; rfl), by first | exact ⟨0, rfl⟩ | exact ⟨_, rfl⟩⟩
  · skip
    go_enter Try.func59, Try.ntmps59
    go_wp2
    go_ret
    exact ⟨by rfl, by first | exact ⟨0, rfl⟩ | exact ⟨_, rfl⟩⟩
theorem drive_state (p0 p1 p2 p3 p4 p5 p6 p7 : Nat) (st : Int) (sp pi en : Nat) (h : driveV p0 p1 p2 p3 p4 p5 p6 p7 st sp pi en = true) : stateV st = true ∧ fin .f32 p3 = true := by
  unfold driveV plantV posi at h
  simp only [Bool.and_eq_true] at h
  exact ⟨h.2.1, h.1.2.2.2.1.1⟩
def nxtO (v : Bool) (wi : Nat) : Bool := v && amount wi
def nxtR (v : Bool) (wi : Nat) (s : Int) : Int := bif v && amount wi then s else 0
set_option maxHeartbeats 8000000 in
theorem i_NextState (p0 p1 p2 p3 p4 p5 p6 p7 : Nat) (st : Int) (sp pi en : Nat) (wi : Nat) (w : World) :
    Calls Try.prog 33 #[.agg #[.float .f32 p0, .float .f32 p1, .float .f32 p2, .float .f32 p3, .float .f32 p4, .float .f32 p5, .float .f32 p6, .float .f32 p7, .int .i64 st, .float .f32 sp, .float .f32 pi, .float .f32 en], .float .f32 wi] w fun e w' => e = .returned (.tuple #[.int .i64 (nxtR (driveV p0 p1 p2 p3 p4 p5 p6 p7 st sp pi en) wi (nextS (fop .mul .f32 1056964608 p3) p3 p5 p6 st sp wi)), .bool (nxtO (driveV p0 p1 p2 p3 p4 p5 p6 p7 st sp pi en) wi)]) ∧ Below w.heap.size w w' := by
  have HB : ∀ o1, Hid (Below w.heap.size w (w.alloc o1)) := fun _ => Lib.hid ((Below.refl _ _).alloc (Nat.le_refl _) _)
  have K1 : ∀ t, Hid (BlkL (w.alloc (.cells #[.float .f32 p0, .float .f32 p1, .float .f32 p2, .float .f32 p3, .float .f32 p4, .float .f32 p5, .float .f32 p6, .float .f32 p7, .int .i64 st, .float .f32 sp, .float .f32 pi, .float .f32 en] t)) w.heap.size [.float .f32 p0, .float .f32 p1, .float .f32 p2, .float .f32 p3, .float .f32 p4, .float .f32 p5, .float .f32 p6, .float .f32 p7, .int .i64 st, .float .f32 sp, .float .f32 pi, .float .f32 en]) := fun _ => Lib.hid (blkL_at w #[.float .f32 p0, .float .f32 p1, .float .f32 p2, .float .f32 p3, .float .f32 p4, .float .f32 p5, .float .f32 p6, .float .f32 p7, .int .i64 st, .float .f32 sp, .float .f32 pi, .float .f32 en] _ rfl)
  have HD := Lib.hid (@drive_state p0 p1 p2 p3 p4 p5 p6 p7 st sp pi en)
  obtain ⟨v, hv⟩ : ∃ v, driveV p0 p1 p2 p3 p4 p5 p6 p7 st sp pi en = v := ⟨_, rfl⟩
  rw [hv]
  have HV := Lib.hid hv
  rw [hv] at HD
  clear hv
  go_enter Try.func33, Try.ntmps33
  go_wp2_with fail
  refine (i_ValidDrive p0 p1 p2 p3 p4 p5 p6 p7 st sp pi en _).mono ?_
  rintro e w1 ⟨rfl, b1⟩
  have L1 : Hid (BlkL w1 w.heap.size [.float .f32 p0, .float .f32 p1, .float .f32 p2, .float .f32 p3, .float .f32 p4, .float .f32 p5, .float .f32 p6, .float .f32 p7, .int .i64 st, .float .f32 sp, .float .f32 pi, .float .f32 en]) := Lib.hid ((K1 _).out.below b1)
  have B1 : Hid (Below w.heap.size w w1) := Lib.hid (below_of (HB _).out (HB _).out.size b1)
  clear b1 K1 HB
  obtain ⟨⟨k0, k1, k2, k3, k4, k5, k6, k7⟩, k8, k9, k10, k11⟩ := L1.out.c12
  rw [HV.out]
  cases v
  · go_wp2
    refine bodyPost_ret (v := .tuple #[.int .i64 0, .bool false]) (by simp [results, Try.results33, go_sem]) rfl ⟨rfl, B1.out⟩
  · go_wp2_with fail
    refine (i_notAmount _ _).mono ?_
    rintro e w' ⟨n, rfl, rfl⟩
    cases ha : amount wi
    · go_wp2
      refine bodyPost_ret (v := .tuple #[.int .i64 0, .bool false]) (by simp [results, Try.results33, go_sem]) rfl ⟨by unfold nxtR nxtO; rw [ha]; rfl, below_draws B1.out _⟩
    · have HA := Lib.hid ha; clear ha
      obtain ⟨hst, hp3⟩ := HD.out (by first | rfl | trivial)
      have hs := fop_sure (mul_num half_some0 (isn_of_fin hp3))
      have HS := Lib.hid hs; clear hs hp3
      go_wp2_with fail
      refine (i_stateBehind p0 p1 p2 p3 p4 p5 p6 p7 st sp pi en wi (fop .mul .f32 1056964608 p3) _ HS.out.1 HS.out.2 hst).mono ?_
      rintro e w2 ⟨rfl, b2⟩
      have B2 : Hid (Below w.heap.size w w2) := Lib.hid (below_of (below_draws B1.out _) (below_draws B1.out _).size b2)
      clear b2
      go_wp2
      refine bodyPost_ret (v := .tuple #[.int .i64 (nextS (fop .mul .f32 1056964608 p3) p3 p5 p6 st sp wi), .bool true]) (by simp [results, Try.results33, go_sem]) rfl ⟨by unfold nxtR nxtO; rw [HA.out]; rfl, B2.out⟩
set_option maxHeartbeats 8000000 in
theorem s_NextState (p0 p1 p2 p3 p4 p5 p6 p7 : Nat) (st : Int) (sp pi en : Nat) (wi : Nat) (w : World) :
    Calls Try.prog 32 #[.agg #[.float .f32 p0, .float .f32 p1, .float .f32 p2, .float .f32 p3, .float .f32 p4, .float .f32 p5, .float .f32 p6, .float .f32 p7, .int .i64 st, .float .f32 sp, .float .f32 pi, .float .f32 en], .float .f32 wi] w fun e w' => e = .returned (.tuple #[.int .i64 (nxtR (driveV p0 p1 p2 p3 p4 p5 p6 p7 st sp pi en) wi (nextS (fop .mul .f32 1056964608 p3) p3 p5 p6 st sp wi)), .bool (nxtO (driveV p0 p1 p2 p3 p4 p5 p6 p7 st sp pi en) wi)]) ∧ Below w.heap.size w w' := by
  obtain ⟨w1, hw⟩ : ∃ w1, w1 = w.alloc (.cells #[.float .f32 p0, .float .f32 p1, .float .f32 p2, .float .f32 p3, .float .f32 p4, .float .f32 p5, .float .f32 p6, .float .f32 p7, .int .i64 st, .float .f32 sp, .float .f32 pi, .float .f32 en] 35) := ⟨_, rfl⟩
  have B1 : Hid (Below w.heap.size w w1) := Lib.hid (by rw [hw]; exact (Below.refl _ _).alloc (Nat.le_refl _) _)
  have HC : Hid (C12 w1 w.heap.size p0 p1 p2 p3 p4 p5 p6 p7 st sp pi en) := Lib.hid (by rw [hw]; exact (blkL_at w #[.float .f32 p0, .float .f32 p1, .float .f32 p2, .float .f32 p3, .float .f32 p4, .float .f32 p5, .float .f32 p6, .float .f32 p7, .int .i64 st, .float .f32 sp, .float .f32 pi, .float .f32 en] _ rfl).c12)
  have HD := Lib.hid (@drive_state p0 p1 p2 p3 p4 p5 p6 p7 st sp pi en)
  obtain ⟨v, hv⟩ : ∃ v, driveV p0 p1 p2 p3 p4 p5 p6 p7 st sp pi en = v := ⟨_, rfl⟩
  rw [hv]
  have HV := Lib.hid hv
  rw [hv] at HD
  clear hv
  go_enter Try.func32, Try.ntmps32
  go_wp2_with fail
  rw [← hw]
  clear hw
  refine (s_l05Is p0 p1 p2 p3 p4 p5 p6 p7 st sp pi en _ _ HC.out).mono ?_
  rintro e w' ⟨n1, rfl, rfl⟩
  rw [HV.out]
  cases v
  · go_wp2
    refine bodyPost_ret (v := .tuple #[.int .i64 0, .bool false]) (by simp [results, Try.results32, go_sem]) rfl ⟨rfl, below_draws B1.out _⟩
  · go_wp2_with fail
    refine (s_l02Least _ _).mono ?_
    rintro e w' ⟨n, rfl, rfl⟩
    cases ha : amount wi
    · go_wp2
      refine bodyPost_ret (v := .tuple #[.int .i64 0, .bool false]) (by simp [results, Try.results32, go_sem]) rfl ⟨by unfold nxtR nxtO; rw [ha]; rfl, by repeat (first | exact B1.out | refine below_draws ?_ _)⟩
    · have HA := Lib.hid ha; clear ha
      obtain ⟨hst, hp3⟩ := HD.out (by first | rfl | trivial)
      have hs := fop_sure (mul_num half_some0 (isn_of_fin hp3))
      have HS := Lib.hid hs; clear hs hp3
      go_wp2_with fail
      refine (s_l05Next p0 p1 p2 p3 p4 p5 p6 p7 st sp pi en wi (fop .mul .f32 1056964608 p3) _ _ (by first | exact (HC.out.draws _).draws _ | exact HC.out.draws _) HS.out.1 HS.out.2 hst).mono ?_
      rintro e w' ⟨rfl, n2, rfl⟩
      go_wp2
      refine bodyPost_ret (v := .tuple #[.int .i64 (nextS (fop .mul .f32 1056964608 p3) p3 p5 p6 st sp wi), .bool true]) (by simp [results, Try.results32, go_sem]) rfl ⟨by unfold nxtR nxtO; rw [HA.out]; rfl, by repeat (first | exact B1.out | refine below_draws ?_ _)⟩
end Go.Proofs.Ytmcfnkfcklcpnaa
