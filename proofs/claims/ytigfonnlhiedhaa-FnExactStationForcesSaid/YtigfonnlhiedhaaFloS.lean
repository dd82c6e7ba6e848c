/- FlowAt: the specification's side. No statement is proved here. -/
import Derived.Test.YtigfonnlhiedhaaFloI
import Derived.Test.YtigfonnlhiedhaaBalS
namespace Go.Proofs.Ytigfonnlhiedhaa
open Go Go.RowKit
theorem flow_can_no {a l d s : List Nat} {n : Nat} {c : Int} {hub tip : Nat} {i : Int} {wi sp p : Nat} (h : canB a l d s n c hub tip i wi sp p = false) : floO a l d s n c hub tip i wi sp p = false ∧ floV a l d s n c hub tip i wi sp p = 0 := by
  cases hc : floC a l d s n c hub tip i wi sp p
  · exact ⟨by unfold floO; rw [hc]; rfl, by unfold floV; rw [hc]; rfl⟩
  · have hc' := hc
    unfold floC at hc
    rw [Bool.and_eq_true] at hc
    obtain ⟨hs, hco⟩ := hc
    obtain ⟨k, rfl, hk, hv⟩ := statR_at hs
    have hr := rotAt hv hk
    unfold canB at h
    rw [hs, hco, Bool.true_and, Bool.true_and, show ((k : Int).toNat) = k from rfl] at h
    have hx := (half_bd bd_c1 bd_c2).2
    rw [ang_flow bd_c1 hx hr.twi (couB_fin hco)] at h
    have e1 : flowS a l d (floatOfInt .f32 c) tip (rad s k) (chd s k) (twi s k) wi sp p 1 = none := flowS_no (k := 0) rfl (by unfold balG; rw [puG_a h]; rfl)
    have e2 : flSt a l d s c tip k wi sp p = none := flowS_stay e1 23
    exact ⟨by unfold floO; rw [show ((k : Int).toNat) = k from rfl, e2]; simp, by unfold floV; rw [show ((k : Int).toNat) = k from rfl, e2, hc']; rfl⟩
theorem flow_can_yes {a l d s : List Nat} {n : Nat} {c : Int} {hub tip : Nat} {k : Nat} {wi sp p : Nat} (h : canB a l d s n c hub tip k wi sp p = true) : fin .f32 p = true ∧ fin .f32 (angZ (twi s k) 981668463 p) = true ∧ floO a l d s n c hub tip k wi sp p = (flSt a l d s c tip k wi sp p).isSome ∧ floV a l d s n c hub tip k wi sp p = flV (flSt a l d s c tip k wi sp p) := by
  unfold canB at h
  rw [Bool.and_eq_true, Bool.and_eq_true, show ((k : Int).toNat) = k from rfl] at h
  obtain ⟨hs, hco, ha⟩ := h
  have e : floC a l d s n c hub tip k wi sp p = true := by unfold floC; rw [hs, hco]; rfl
  exact ⟨couB_fin hco, ha, by unfold floO; rw [e]; rfl, by unfold floV; rw [e]; rfl⟩
set_option maxHeartbeats 4000000 in
set_option maxRecDepth 100000 in
theorem s_l03FlowAt (A L D S : Option Addr) (ca cl cd n cs : Nat) (c : Int) (hub tip : Nat) (a l d s : List Nat) (k0 B wi sp p : Nat) (w : World) (h : Rt w A L D S a l d s) (hs : s.length = n * 3) (hkn : k0 < n) (hn2 : n ≤ 1048576) (hk : Blk7 w B A L D S a l d ca cl cd n cs c hub tip) (hr : RotAt s c hub tip k0) (hv : validP a l d = true) (hp : fin .f32 p = true) (ha : fin .f32 (angZ (twi s k0) 981668463 p) = true) :
    Calls Try.prog 70 #[.pointer (some ⟨B, 0, none⟩), .int .i64 k0, .float .f32 wi, .float .f32 sp, .float .f32 p] w fun e w' => e = .returned (.tuple #[.float .f32 (flV (flSt a l d s c tip k0 wi sp p)), .bool (flSt a l d s c tip k0 wi sp p).isSome]) ∧ Below w.heap.size w w' := by
  have HR := Lib.hid h; clear h
  have HK := Lib.hid hk; clear hk
  have HRA := Lib.hid hr; clear hr
  have HV := Lib.hid hv; clear hv
  have HA : ∀ m, Bd .f32 0 m → fin .f32 (angZ (twi s k0) m p) = true := fun m hm => by rw [← ang_flow bd_c1 hm HRA.out.twi hp]; exact ha
  have HAH := Lib.hid HA; clear HA ha hp
  have HFL : Hid (flSt a l d s c tip k0 wi sp p = flowS a l d (floatOfInt .f32 c) tip (rad s k0) (chd s k0) (twi s k0) wi sp p 24) := rfl
  go_enter Try.func70, Try.ntmps70
  go_wp2_with fail
  go_loopw [12, 13, 14] (fun lo hi i wr => ∃ k u v : Nat, k ≤ 24 ∧ i = .int .i64 k ∧ lo = .float .f32 u ∧ hi = .float .f32 v ∧ Hid (flowS a l d (floatOfInt .f32 c) tip (rad s k0) (chd s k0) (twi s k0) wi sp p k = some (u, v)) ∧ Hid (Below w.heap.size w wr)) (fun _ _ i _ => 24 - (intOf i).toNat)
  case atStart => exact ⟨0, 981668463, 1048508891, Nat.zero_le _, rfl, rfl, rfl, rfl, Lib.hid (Below.refl _ _)⟩
  case round =>
    obtain ⟨k, u, v, hk, rfl, rfl, rfl, hS, hb⟩ := hrel
    by_cases hlt : k < 24
    · obtain ⟨i1, i2⟩ := flowS_bd k u v hS.out
      obtain ⟨i3, i4⟩ := half_bd i1 i2
      obtain ⟨e1, e2⟩ := bd_sure i3
      obtain ⟨e3, e4⟩ := bd_sure i4
      have ha := HAH.out _ i4
      clear i1 i2 i3 i4
      obtain ⟨m, hm⟩ : ∃ m, m = half u v := ⟨_, rfl⟩
      have HM := Lib.hid hm
      rw [show fop .mul .f32 1056964608 (fop .add .f32 u v) = m from hm.symm] at e3
      rw [← hm] at ha
      clear hm
      have HA := Lib.hid ha; clear ha
      have hwr : IntKind.i64.wrap ((k : Int) + 1) = (k : Int) + 1 := IntWalk.i64_in _ (by omega)
      have hge : (0 : Int) ≤ (k : Int) + 1 := by omega
      have htn : ((k : Int) + 1).toNat = k + 1 := by omega
      have hlt0 : (k : Int) < 24 := by omega
      cases hg : balG a l d (floatOfInt .f32 c) tip (rad s k0) (chd s k0) (twi s k0) m wi sp p
      · have HG := Lib.hid hg; clear hg
        go_wp2_with fail
        refine (s_l03Balance A L D S ca cl cd n cs c hub tip a l d s k0 B m wi sp p _ (HR.out.below hb.out) hs hkn hn2 (HK.out.below hb.out) HRA.out HV.out HA.out).mono ?_
        rintro e w1 ⟨r, rfl, hr, b1⟩
        have HF : Hid (fin .f32 r = false) := Lib.hid (by rw [← fin_canon, hr, ← balG_ang HA.out]; exact HG.out)
        have B1 : Hid (Below w.heap.size w w1) := Lib.hid (below_of hb.out hb.out.size b1)
        clear b1 hr
        go_wp2_with fail
        refine (s_l01Finite _ _).mono ?_
        rintro e w' ⟨m1, rfl, rfl⟩
        rw [HF.out]
        have HS : Hid (flSt a l d s c tip k0 wi sp p = none) := Lib.hid (by
          have e := flowS_stay (flowS_no hS.out (by rw [← HM.out]; exact HG.out)) (24 - (k + 1))
          rw [show k + 1 + (24 - (k + 1)) = 24 by omega] at e
          exact e)
        go_wp2
        refine bodyPost_ret (results_tmp2 rfl _ _ _) rfl ?_
        exact ⟨by rw [HS.out]; rfl, below_draws B1.out _⟩
      · cases ht : gtr32 (balZ a l d (floatOfInt .f32 c) tip (rad s k0) (chd s k0) (twi s k0) m wi sp p) 0
        all_goals
          have HG := Lib.hid hg; clear hg
          have HT := Lib.hid ht; clear ht
          go_wp2_with fail
          refine (s_l03Balance A L D S ca cl cd n cs c hub tip a l d s k0 B m wi sp p _ (HR.out.below hb.out) hs hkn hn2 (HK.out.below hb.out) HRA.out HV.out HA.out).mono ?_
          rintro e w1 ⟨r, rfl, hr, b1⟩
          have HF : Hid (fin .f32 r = true) := Lib.hid (by rw [← fin_canon, hr, ← balG_ang HA.out]; exact HG.out)
          have hgt : (FloatKind.f32.format.order r 0 == some .gt) = _ := (gtr_canon hr).trans HT.out
          have B1 : Hid (Below w.heap.size w w1) := Lib.hid (below_of hb.out hb.out.size b1)
          have B1d : ∀ m, Hid (Below w.heap.size w (w1.drewN m)) := fun _ => Lib.hid (below_draws B1.out _)
          clear b1 hr
          go_wp2_with fail
          refine (s_l01Finite _ _).mono ?_
          rintro e w' ⟨m1, rfl, rfl⟩
          rw [HF.out]
          go_wp2
          go_roundw
        · exact ⟨k + 1, m, v, by omega, by go_num, rfl, rfl, Lib.hid (by rw [flowS_lo hS.out (by rw [← HM.out]; exact HG.out) (by rw [← HM.out]; exact HT.out), ← HM.out]), B1d _⟩
        · simp [intOf]; omega
        · exact ⟨k + 1, u, m, by omega, by go_num, rfl, rfl, Lib.hid (by rw [flowS_hi hS.out (by rw [← HM.out]; exact HG.out) (by rw [← HM.out]; exact HT.out), ← HM.out]), B1d _⟩
        · simp [intOf]; omega
    · have hkk : k = 24 := by omega
      subst hkk
      go_wp2
      refine bodyPost_ret (results_tmp2 rfl _ _ _) rfl ?_
      exact ⟨by rw [HFL.out, hS.out]; rfl, hb.out⟩
set_option maxHeartbeats 4000000 in
theorem s_FlowAt (A L D S : Option Addr) (ca cl cd n cs : Nat) (c : Int) (hub tip : Nat) (a l d s : List Nat) (i : Int) (wi sp p : Nat) (w : World) (h : Rt w A L D S a l d s) (hn : FewR a l d s n) :
    Calls Try.prog 31 #[.agg #[.slice A a.length ca, .slice L l.length cl, .slice D d.length cd, .slice S n cs, .int .i64 c, .float .f32 hub, .float .f32 tip], .int .i64 i, .float .f32 wi, .float .f32 sp, .float .f32 p] w fun e w' => ∃ r, e = .returned (.tuple #[.float .f32 r, .bool (floO a l d s n c hub tip i wi sp p)]) ∧ canon .f32 r = canon .f32 (floV a l d s n c hub tip i wi sp p) ∧ Below w.heap.size w w' := by
  have HB : ∀ o1, Hid (Below w.heap.size w (w.alloc o1)) := fun _ => Lib.hid ((Below.refl _ _).alloc (Nat.le_refl _) _)
  have HR : ∀ o1, Hid (Rt (w.alloc o1) A L D S a l d s) := fun o1 => Lib.hid (h.below (HB o1).out)
  have hn1 := hn.1
  have hn2 : n ≤ 1048576 := by have := hn.2; omega
  have HN := Lib.hid hn; clear hn h
  have HK : ∀ t, Hid (Blk7 (w.alloc (.cells #[.slice A a.length ca, .slice L l.length cl, .slice D d.length cd, .slice S n cs, .int .i64 c, .float .f32 hub, .float .f32 tip] t)) w.heap.size A L D S a l d ca cl cd n cs c hub tip) := fun t => Lib.hid (blk7_at w A L D S a l d ca cl cd n cs c hub tip t rfl)
  cases hc : canB a l d s n c hub tip i wi sp p
  · obtain ⟨e1, e2⟩ := flow_can_no hc
    have E1 := Lib.hid e1
    have E2 := Lib.hid e2
    have HC := Lib.hid hc; clear hc e1 e2
    go_enter Try.func31, Try.ntmps31
    go_wp2_with fail
    refine (s_l03Can A L D S ca cl cd n cs c hub tip a l d s i w.heap.size wi sp p _ (HR _).out HN.out (HK _).out).mono ?_
    rintro e w1 ⟨rfl, b1⟩
    rw [HC.out]
    have B1 : Hid (Below w.heap.size w w1) := Lib.hid (below_of (HB _).out (HB _).out.size b1)
    clear b1
    go_wp2
    refine bodyPost_ret (results_tmp2 rfl _ _ _) rfl ?_
    exact ⟨_, by rw [E1.out]; rfl, by rw [E2.out], B1.out⟩
  · obtain ⟨k, rfl, hk, hv⟩ := statR_at (show statR a l d s n c hub tip i = true from by unfold canB at hc; rw [Bool.and_eq_true] at hc; exact hc.1)
    have HV : Hid (validP a l d = true) := Lib.hid (by unfold validR at hv; rw [Bool.and_eq_true] at hv; exact hv.1)
    have HRA := Lib.hid (rotAt hv hk); clear hv
    obtain ⟨hp, ha, e1, e2⟩ := flow_can_yes hc
    have HPF := Lib.hid hp
    have HA := Lib.hid ha
    have E1 := Lib.hid e1
    have E2 := Lib.hid e2
    have HC := Lib.hid hc; clear hc e1 e2 ha hp
    go_enter Try.func31, Try.ntmps31
    go_wp2_with fail
    refine (s_l03Can A L D S ca cl cd n cs c hub tip a l d s k w.heap.size wi sp p _ (HR _).out HN.out (HK _).out).mono ?_
    rintro e w1 ⟨rfl, b1⟩
    rw [HC.out]
    have B1 : Hid (Below w.heap.size w w1) := Lib.hid (below_of (HB _).out (HB _).out.size b1)
    have K1 : Hid (Blk7 w1 w.heap.size A L D S a l d ca cl cd n cs c hub tip) := Lib.hid ((HK _).out.below b1)
    have R1 : Hid (Rt w1 A L D S a l d s) := Lib.hid ((HR _).out.below b1)
    clear b1
    go_wp2_with fail
    refine (s_l03FlowAt A L D S ca cl cd n cs c hub tip a l d s k w.heap.size wi sp p _ R1.out hn1 hk hn2 K1.out HRA.out HV.out HPF.out HA.out).mono ?_
    rintro e w2 ⟨rfl, b2⟩
    have B2 : Hid (Below w.heap.size w w2) := Lib.hid (below_of B1.out B1.out.size b2)
    clear b2
    go_wp2
    refine bodyPost_ret (results_tmp2 rfl _ _ _) rfl ?_
    exact ⟨_, by rw [E1.out]; rfl, by rw [E2.out], B2.out⟩
end Go.Proofs.Ytigfonnlhiedhaa
