/- BalanceOf: the specification's side. No statement is proved here. -/
import Derived.Test.YtigfonnlhiedhaaBalI
namespace Go.Proofs.Ytigfonnlhiedhaa
open Go Go.RowKit
def canB (a l d s : List Nat) (n : Nat) (c : Int) (hub tip : Nat) (i : Int) (wi sp p : Nat) : Bool := statR a l d s n c hub tip i && (couB wi sp p && fin .f32 (angZ (twi s i.toNat) 981668463 p))
theorem couB_fin {wi sp p : Nat} (h : couB wi sp p = true) : fin .f32 p = true := by
  unfold couB at h
  rw [Bool.and_eq_true, Bool.and_eq_true] at h
  exact h.2.2
theorem bal_can_no {a l d s : List Nat} {n : Nat} {c : Int} {hub tip : Nat} {i : Int} {f wi sp p : Nat} (h : canB a l d s n c hub tip i wi sp p = false) : balO a l d s n c hub tip i f wi sp p = false ∧ balV a l d s n c hub tip i f wi sp p = 0 := by
  cases hs : statR a l d s n c hub tip i
  · have e : balC a l d s n c hub tip i f wi sp p = false := by unfold balC; rw [hs]; rfl
    exact ⟨by unfold balO; rw [e]; rfl, by unfold balV; rw [e]; rfl⟩
  · obtain ⟨k, rfl, hk, hv⟩ := statR_at hs
    have hr := rotAt hv hk
    cases hc : couB wi sp p
    · have e : balC a l d s n c hub tip k f wi sp p = false := by unfold balC; rw [hc]; simp
      exact ⟨by unfold balO; rw [e]; rfl, by unfold balV; rw [e]; rfl⟩
    · cases hf : flowB f
      · have e : balC a l d s n c hub tip k f wi sp p = false := by unfold balC; rw [hf]; simp
        exact ⟨by unfold balO; rw [e]; rfl, by unfold balV; rw [e]; rfl⟩
      · unfold canB at h
        rw [hs, hc, Bool.true_and, Bool.true_and, show ((k : Int).toNat) = k from rfl, ang_flow bd_c1 (flow_bd hf) hr.twi (couB_fin hc)] at h
        have g := puG_a (a := a) (l := l) (d := d) h
        have e : balC a l d s n c hub tip k f wi sp p = true := by unfold balC; rw [hs, hf, hc]; rfl
        refine ⟨?_, ?_⟩
        · unfold balO balG; rw [show ((k : Int).toNat) = k from rfl, g, e]; rfl
        · unfold balV balR; rw [show ((k : Int).toNat) = k from rfl, g, e]; rfl
theorem bal_flow_no {a l d s : List Nat} {n : Nat} {c : Int} {hub tip : Nat} {i : Int} {f wi sp p : Nat} (h : flowB f = false) : balO a l d s n c hub tip i f wi sp p = false ∧ balV a l d s n c hub tip i f wi sp p = 0 := by
  have e : balC a l d s n c hub tip i f wi sp p = false := by unfold balC; rw [h]; simp
  exact ⟨by unfold balO; rw [e]; rfl, by unfold balV; rw [e]; rfl⟩
theorem bal_yes {a l d s : List Nat} {n : Nat} {c : Int} {hub tip : Nat} {k : Nat} {f wi sp p : Nat} (hc : canB a l d s n c hub tip k wi sp p = true) (hf : flowB f = true) :
    fin .f32 (angZ (twi s k) f p) = true ∧ balO a l d s n c hub tip k f wi sp p = fin .f32 (balZ a l d (floatOfInt .f32 c) tip (rad s k) (chd s k) (twi s k) f wi sp p) ∧ balV a l d s n c hub tip k f wi sp p = onlyN (balZ a l d (floatOfInt .f32 c) tip (rad s k) (chd s k) (twi s k) f wi sp p) := by
  unfold canB at hc
  rw [Bool.and_eq_true, Bool.and_eq_true, show ((k : Int).toNat) = k from rfl] at hc
  obtain ⟨hs, hco, ha⟩ := hc
  obtain ⟨k', e0, hk, hv⟩ := statR_at hs
  obtain rfl : k = k' := by omega
  have hr := rotAt hv hk
  rw [ang_flow bd_c1 (flow_bd hf) hr.twi (couB_fin hco)] at ha
  have e : balC a l d s n c hub tip k f wi sp p = true := by unfold balC; rw [hs, hf, hco]; rfl
  refine ⟨ha, ?_, ?_⟩
  · unfold balO; rw [show ((k : Int).toNat) = k from rfl, balG_ang ha, e]; rfl
  · unfold balV; rw [show ((k : Int).toNat) = k from rfl, balR_ang ha, e]; rfl
set_option maxHeartbeats 4000000 in
set_option maxRecDepth 100000 in
theorem s_l03Slow (A L D S : Option Addr) (ca cl cd n cs : Nat) (c : Int) (hub tip : Nat) (a l d s : List Nat) (k B f p : Nat) (w : World) (h : Rt w A L D S a l d s) (hs : s.length = n * 3) (hkn : k < n) (hn2 : n ≤ 1048576) (hk : Blk7 w B A L D S a l d ca cl cd n cs c hub tip) (hr : RotAt s c hub tip k) (hv : validP a l d = true) (ha : fin .f32 (angZ (twi s k) f p) = true) :
    Calls Try.prog 72 #[.pointer (some ⟨B, 0, none⟩), .int .i64 k, .float .f32 f, .float .f32 p] w fun e w' => ∃ rk rm r t, e = .returned (.tuple #[.float .f32 rk, .float .f32 rm, .float .f32 r, .float .f32 t]) ∧ canon .f32 rk = kB a l d (floatOfInt .f32 c) tip (rad s k) (chd s k) (twi s k) f p ∧ canon .f32 rm = mB a l d (floatOfInt .f32 c) tip (rad s k) (chd s k) (twi s k) f p ∧ canon .f32 r = pusN a l d (twi s k) f p ∧ canon .f32 t = pusT a l d (twi s k) f p ∧ Below w.heap.size w w' := by
  have HR := Lib.hid h; clear h
  have HK := Lib.hid hk; clear hk
  have HRA := Lib.hid hr; clear hr
  have HV := Lib.hid hv; clear hv
  have HA := Lib.hid ha; clear ha
  have RD : ∀ m, Hid (Rt (w.drewN m) A L D S a l d s) := fun _ => HR
  have KD : ∀ m, Hid (Blk7 (w.drewN m) B A L D S a l d ca cl cd n cs c hub tip) := fun _ => HK
  have WD : ∀ m, Hid (Below w.heap.size w (w.drewN m)) := fun _ => Lib.hid (below_draws (Below.refl _ _) _)
  go_enter Try.func72, Try.ntmps72
  go_wp2_with fail
  refine (s_l03Pushes A L D S ca cl cd n cs c hub tip a l d s k B f p _ HR.out hs hkn HK.out HV.out HA.out).mono ?_
  rintro e w' ⟨r1, t1, m1, rfl, h1, h2, rfl⟩
  have H1 := Lib.hid h1
  have H2 := Lib.hid h2
  clear h1 h2
  go_wp2_with fail
  refine (s_l01Sine _ _).mono ?_
  rintro e w' ⟨r3, m3, rfl, c3, rfl⟩
  have C3 : Hid (canon .f32 r3 = sinC f) := Lib.hid c3
  clear c3
  go_wp2_with fail
  refine (s_l01Sine _ _).mono ?_
  rintro e w' ⟨r4, m4, rfl, c4, rfl⟩
  have C4 : Hid (canon .f32 r4 = cosC f) := Lib.hid (by rw [c4, canonF rfl rfl]; rfl)
  clear c4
  go_wp2_with fail
  refine (s_l03Tip A L D S ca cl cd n cs c hub tip a l d s k B _ _ (RD _).out.2 hs hkn hn2 (KD _).out HRA.out).mono ?_
  rintro e w1 ⟨rt, rfl, ht, b1⟩
  have T1 : Hid (canon .f32 rt = tipB (floatOfInt .f32 c) tip (rad s k) (sinC f)) := Lib.hid (by rw [ht, C3.out]; rfl)
  have B1 : Hid (Below w.heap.size w w1) := Lib.hid (below_of (WD _).out (WD _).out.size b1)
  have K1 : Hid (Blk7 w1 B A L D S a l d ca cl cd n cs c hub tip) := Lib.hid ((KD _).out.below b1)
  have R1 : Hid (Rt w1 A L D S a l d s) := Lib.hid ((RD _).out.below b1)
  clear ht b1
  go_wp2_with fail
  refine (s_l03Solidity A L D S ca cl cd n cs c hub tip a l d s k B _ R1.out.2 hs hkn hn2 K1.out HRA.out).mono ?_
  rintro e w2 ⟨rs, rfl, hsl, b2⟩
  have S1 : Hid (canon .f32 rs = solB (floatOfInt .f32 c) (rad s k) (chd s k)) := Lib.hid hsl
  have B2 : Hid (Below w.heap.size w w2) := Lib.hid (below_of B1.out B1.out.size b2)
  clear hsl b2
  go_wp2
  have E1 : ∀ {W1 W2 W3 W4 W5 : World}, canon .f32 (fopV .quo .f32 (fopV .mul .f32 rs r1 W1) (fopV .mul .f32 (fopV .mul .f32 (fopV .mul .f32 1082130432 rt W2) r3 W3) r3 W4) W5) = kB a l d (floatOfInt .f32 c) tip (rad s k) (chd s k) (twi s k) f p := canonF (canonF S1.out H1.out) (canonF (canonF (canonF rfl T1.out) C3.out) C3.out)
  have E2 : ∀ {W1 W2 W3 W4 W5 : World}, canon .f32 (fopV .quo .f32 (fopV .mul .f32 rs t1 W1) (fopV .mul .f32 (fopV .mul .f32 (fopV .mul .f32 1082130432 rt W2) r3 W3) r4 W4) W5) = mB a l d (floatOfInt .f32 c) tip (rad s k) (chd s k) (twi s k) f p := canonF (canonF S1.out H2.out) (canonF (canonF (canonF rfl T1.out) C3.out) C4.out)
  refine bodyPost_ret (v := .tuple #[.float .f32 _, .float .f32 _, .float .f32 r1, .float .f32 t1]) (by simp [results, Try.results72, go_sem]; exact ⟨rfl, rfl⟩) rfl ?_
  exact ⟨_, _, _, _, rfl, E1, E2, H1.out, H2.out, by first | exact B2.out | exact below_draws (B2.out) _ | exact below_draws (below_draws (B2.out) _) _ | exact below_draws (below_draws (below_draws (B2.out) _) _) _ | exact below_draws (below_draws (below_draws (below_draws (B2.out) _) _) _) _ | exact below_draws (below_draws (below_draws (below_draws (below_draws (B2.out) _) _) _) _) _⟩
set_option maxHeartbeats 4000000 in
set_option maxRecDepth 100000 in
theorem s_l03Balance (A L D S : Option Addr) (ca cl cd n cs : Nat) (c : Int) (hub tip : Nat) (a l d s : List Nat) (k B f wi sp p : Nat) (w : World) (h : Rt w A L D S a l d s) (hs : s.length = n * 3) (hkn : k < n) (hn2 : n ≤ 1048576) (hk : Blk7 w B A L D S a l d ca cl cd n cs c hub tip) (hr : RotAt s c hub tip k) (hv : validP a l d = true) (ha : fin .f32 (angZ (twi s k) f p) = true) :
    Calls Try.prog 67 #[.pointer (some ⟨B, 0, none⟩), .int .i64 k, .float .f32 f, .float .f32 wi, .float .f32 sp, .float .f32 p] w fun e w' => ∃ r, e = .returned (.float .f32 r) ∧ canon .f32 r = balZ a l d (floatOfInt .f32 c) tip (rad s k) (chd s k) (twi s k) f wi sp p ∧ Below w.heap.size w w' := by
  obtain ⟨b, off, rfl, -, -⟩ := h.2.at_ (k := k * 3) (by omega)
  have HR := Lib.hid h; clear h
  have HK := Lib.hid hk; clear hk
  have HRA := Lib.hid hr; clear hr
  have HV := Lib.hid hv; clear hv
  have HA := Lib.hid ha; clear ha
  go_enter Try.func67, Try.ntmps67
  go_wp2_with fail
  refine (s_l03Slow A L D (some ⟨b, off, none⟩) ca cl cd n cs c hub tip a l d s k B f p _ HR.out hs hkn hn2 HK.out HRA.out HV.out HA.out).mono ?_
  rintro e w1 ⟨rk, rm, r1, t1, rfl, hrk, hrm, -, -, b1⟩
  have E1 := Lib.hid hrk
  have E2 := Lib.hid hrm
  have B1 := Lib.hid b1
  have R1 : Hid (Rt w1 A L D (some ⟨b, off, none⟩) a l d s) := Lib.hid (HR.out.below b1)
  have K1 : Hid (Blk7 w1 B A L D (some ⟨b, off, none⟩) a l d ca cl cd n cs c hub tip) := Lib.hid (HK.out.below b1)
  clear hrk hrm b1
  go_wp2_with fail
  refine (s_l01Sine _ _).mono ?_
  rintro e w' ⟨r3, m3, rfl, c3, rfl⟩
  have C3 : Hid (canon .f32 r3 = sinC f) := Lib.hid c3
  clear c3
  go_wp2_with fail
  refine (s_l01Sine _ _).mono ?_
  rintro e w' ⟨r4, m4, rfl, c4, rfl⟩
  have C4 : Hid (canon .f32 r4 = cosC f) := Lib.hid (by rw [c4, canonF rfl rfl]; rfl)
  clear c4
  have hc0 := R1.out.2.same rfl (k := k * 3) (by omega)
  rw [show s.getD (k * 3) 0 = rad s k from rfl] at hc0
  obtain ⟨k0, k1, k2, k3, k4, k5, k6⟩ := K1.out.limbs
  go_wp2
  have E : ∀ {W1 W2 W3 W4 W5 W6 W7 W8 : World}, canon .f32 (fopV .sub .f32 (fopV .mul .f32 r3 (fopV .add .f32 1065353216 rk W1) W2) (fopV .mul .f32 (fopV .mul .f32 (fopV .quo .f32 wi (fopV .mul .f32 sp (rad s k) W3) W4) r4 W5) (fopV .sub .f32 1065353216 rm W6) W7) W8) = balZ a l d (floatOfInt .f32 c) tip (rad s k) (chd s k) (twi s k) f wi sp p := canonF (canonF C3.out (canonF rfl E1.out)) (canonF (canonF (canonF rfl (canonF rfl rfl)) C4.out) (canonF rfl E2.out))
  go_ret
  exact ⟨_, rfl, E, by first | exact B1.out | exact below_draws (B1.out) _ | exact below_draws (below_draws (B1.out) _) _ | exact below_draws (below_draws (below_draws (B1.out) _) _) _ | exact below_draws (below_draws (below_draws (below_draws (B1.out) _) _) _) _ | exact below_draws (below_draws (below_draws (below_draws (below_draws (B1.out) _) _) _) _) _⟩
set_option maxHeartbeats 4000000 in
theorem s_l03Can (A L D S : Option Addr) (ca cl cd n cs : Nat) (c : Int) (hub tip : Nat) (a l d s : List Nat) (i : Int) (B wi sp p : Nat) (w : World) (h : Rt w A L D S a l d s) (hn : FewR a l d s n) (hk : Blk7 w B A L D S a l d ca cl cd n cs c hub tip) :
    Calls Try.prog 66 #[.pointer (some ⟨B, 0, none⟩), .int .i64 i, .float .f32 wi, .float .f32 sp, .float .f32 p] w fun e w' => e = .returned (.bool (canB a l d s n c hub tip i wi sp p)) ∧ Below w.heap.size w w' := by
  have HR := Lib.hid h; clear h
  have hn1 := hn.1
  have HN := Lib.hid hn; clear hn
  have HK := Lib.hid hk; clear hk
  cases hst : statR a l d s n c hub tip i
  · have HST := Lib.hid hst; clear hst
    go_enter Try.func66, Try.ntmps66
    go_wp2_with fail
    refine (s_l03Station A L D S ca cl cd n cs c hub tip a l d s i B _ HR.out HN.out HK.out).mono ?_
    rintro e w1 ⟨rfl, b1⟩
    rw [HST.out]
    go_wp2
    go_ret
    exact ⟨by unfold canB; rw [HST.out]; rfl, by first | exact b1 | exact below_draws (b1) _ | exact below_draws (below_draws (b1) _) _ | exact below_draws (below_draws (below_draws (b1) _) _) _ | exact below_draws (below_draws (below_draws (below_draws (b1) _) _) _) _ | exact below_draws (below_draws (below_draws (below_draws (below_draws (b1) _) _) _) _) _⟩
  · obtain ⟨k, rfl, hk, hv⟩ := statR_at hst
    have HRA := Lib.hid (rotAt hv hk); clear hv
    cases h1 : posi wi
    · have HC : Hid (canB a l d s n c hub tip k wi sp p = false) := Lib.hid (by unfold canB couB; rw [h1]; simp)
      have HST := Lib.hid hst; clear hst
      have H1 := Lib.hid h1; clear h1
      go_enter Try.func66, Try.ntmps66
      go_wp2_with fail
      refine (s_l03Station A L D S ca cl cd n cs c hub tip a l d s k B _ HR.out HN.out HK.out).mono ?_
      rintro e w1 ⟨rfl, b1⟩
      rw [HST.out]
      go_wp2_with fail
      refine (s_l02Above _ _).mono ?_
      rintro e w' ⟨m1, rfl, rfl⟩
      rw [H1.out]
      go_wp2
      go_ret
      exact ⟨by rw [HC.out]; rfl, by first | exact b1 | exact below_draws (b1) _ | exact below_draws (below_draws (b1) _) _ | exact below_draws (below_draws (below_draws (b1) _) _) _ | exact below_draws (below_draws (below_draws (below_draws (b1) _) _) _) _ | exact below_draws (below_draws (below_draws (below_draws (below_draws (b1) _) _) _) _) _⟩
    · cases h2 : posi sp
      · have HC : Hid (canB a l d s n c hub tip k wi sp p = false) := Lib.hid (by unfold canB couB; rw [h2]; simp)
        have HST := Lib.hid hst; clear hst
        have H1 := Lib.hid h1; clear h1
        have H2 := Lib.hid h2; clear h2
        go_enter Try.func66, Try.ntmps66
        go_wp2_with fail
        refine (s_l03Station A L D S ca cl cd n cs c hub tip a l d s k B _ HR.out HN.out HK.out).mono ?_
        rintro e w1 ⟨rfl, b1⟩
        rw [HST.out]
        go_wp2_with fail
        refine (s_l02Above _ _).mono ?_
        rintro e w' ⟨m1, rfl, rfl⟩
        rw [H1.out]
        go_wp2_with fail
        refine (s_l02Above _ _).mono ?_
        rintro e w' ⟨m2, rfl, rfl⟩
        rw [H2.out]
        go_wp2
        go_ret
        exact ⟨by rw [HC.out]; rfl, by first | exact b1 | exact below_draws (b1) _ | exact below_draws (below_draws (b1) _) _ | exact below_draws (below_draws (below_draws (b1) _) _) _ | exact below_draws (below_draws (below_draws (below_draws (b1) _) _) _) _ | exact below_draws (below_draws (below_draws (below_draws (below_draws (b1) _) _) _) _) _⟩
      · cases h3 : fin .f32 p
        all_goals
          have HCO : Hid (couB wi sp p = _) := Lib.hid (by unfold couB; rw [h1, h2, h3])
          have HC : Hid (canB a l d s n c hub tip k wi sp p = (couB wi sp p && fin .f32 (angZ (twi s k) 981668463 p))) := Lib.hid (by unfold canB; rw [hst, Bool.true_and]; rfl)
          have HST := Lib.hid hst; clear hst
          have H1 := Lib.hid h1; clear h1
          have H2 := Lib.hid h2; clear h2
          have H3 := Lib.hid h3; clear h3
          go_enter Try.func66, Try.ntmps66
          go_wp2_with fail
          refine (s_l03Station A L D S ca cl cd n cs c hub tip a l d s k B _ HR.out HN.out HK.out).mono ?_
          rintro e w1 ⟨rfl, b1⟩
          rw [HST.out]
          have R1 : Hid (Rt w1 A L D S a l d s) := Lib.hid (HR.out.below b1)
          have K1 : Hid (Blk7 w1 B A L D S a l d ca cl cd n cs c hub tip) := Lib.hid (HK.out.below b1)
          have RD : ∀ m, Hid (Rt (w1.drewN m) A L D S a l d s) := fun _ => R1
          have KD : ∀ m, Hid (Blk7 (w1.drewN m) B A L D S a l d ca cl cd n cs c hub tip) := fun _ => K1
          go_wp2_with fail
          refine (s_l02Above _ _).mono ?_
          rintro e w' ⟨m1, rfl, rfl⟩
          rw [H1.out]
          go_wp2_with fail
          refine (s_l02Above _ _).mono ?_
          rintro e w' ⟨m2, rfl, rfl⟩
          rw [H2.out]
          go_wp2_with fail
          refine (s_l01Finite _ _).mono ?_
          rintro e w' ⟨m3, rfl, rfl⟩
          rw [H3.out]
        · go_wp2
          go_ret
          exact ⟨by rw [HC.out, HCO.out]; rfl, by first | exact b1 | exact below_draws (b1) _ | exact below_draws (below_draws (b1) _) _ | exact below_draws (below_draws (below_draws (b1) _) _) _ | exact below_draws (below_draws (below_draws (below_draws (b1) _) _) _) _ | exact below_draws (below_draws (below_draws (below_draws (below_draws (b1) _) _) _) _) _⟩
        · have HAA : Hid ((fin .f32 (angZ (twi s k) 981668463 p) && fin .f32 (angZ (twi s k) 1048508891 p)) = fin .f32 (angZ (twi s k) 981668463 p)) := Lib.hid (by rw [ang_flow bd_c2 bd_c1 HRA.out.twi H3.out, Bool.and_self])
          go_wp2_with fail
          refine (s_l03Angle A L D S ca cl cd n cs c hub tip a l d s k B p _ (RD _).out.2 hn1 hk (KD _).out).mono ?_
          rintro e w' ⟨m4, rfl, rfl⟩
          rw [HAA.out]
          go_wp2
          go_ret
          exact ⟨by rw [HC.out, HCO.out]; rfl, by first | exact b1 | exact below_draws (b1) _ | exact below_draws (below_draws (b1) _) _ | exact below_draws (below_draws (below_draws (b1) _) _) _ | exact below_draws (below_draws (below_draws (below_draws (b1) _) _) _) _ | exact below_draws (below_draws (below_draws (below_draws (below_draws (b1) _) _) _) _) _⟩
set_option maxHeartbeats 4000000 in
theorem s_BalanceOf (A L D S : Option Addr) (ca cl cd n cs : Nat) (c : Int) (hub tip : Nat) (a l d s : List Nat) (i : Int) (f wi sp p : Nat) (w : World) (h : Rt w A L D S a l d s) (hn : FewR a l d s n) :
    Calls Try.prog 29 #[.agg #[.slice A a.length ca, .slice L l.length cl, .slice D d.length cd, .slice S n cs, .int .i64 c, .float .f32 hub, .float .f32 tip], .int .i64 i, .float .f32 f, .float .f32 wi, .float .f32 sp, .float .f32 p] w fun e w' => ∃ r, e = .returned (.tuple #[.float .f32 r, .bool (balO a l d s n c hub tip i f wi sp p)]) ∧ canon .f32 r = balV a l d s n c hub tip i f wi sp p ∧ Below w.heap.size w w' := by
  have HB : ∀ o1, Hid (Below w.heap.size w (w.alloc o1)) := fun _ => Lib.hid ((Below.refl _ _).alloc (Nat.le_refl _) _)
  have HR : ∀ o1, Hid (Rt (w.alloc o1) A L D S a l d s) := fun o1 => Lib.hid (h.below (HB o1).out)
  have hn1 := hn.1
  have hn2 : n ≤ 1048576 := by have := hn.2; omega
  have HN := Lib.hid hn; clear hn h
  have HK : ∀ t, Hid (Blk7 (w.alloc (.cells #[.slice A a.length ca, .slice L l.length cl, .slice D d.length cd, .slice S n cs, .int .i64 c, .float .f32 hub, .float .f32 tip] t)) w.heap.size A L D S a l d ca cl cd n cs c hub tip) := fun t => Lib.hid (blk7_at w A L D S a l d ca cl cd n cs c hub tip t rfl)
  cases hc : canB a l d s n c hub tip i wi sp p
  · obtain ⟨e1, e2⟩ := bal_can_no (f := f) hc
    have E1 := Lib.hid e1
    have E2 := Lib.hid e2
    have HC := Lib.hid hc; clear hc e1 e2
    go_enter Try.func29, Try.ntmps29
    go_wp2_with fail
    refine (s_l03Can A L D S ca cl cd n cs c hub tip a l d s i w.heap.size wi sp p _ (HR _).out HN.out (HK _).out).mono ?_
    rintro e w1 ⟨rfl, b1⟩
    rw [HC.out]
    have B1 : Hid (Below w.heap.size w w1) := Lib.hid (below_of (HB _).out (HB _).out.size b1)
    clear b1
    go_wp2
    refine bodyPost_ret (results_tmp2 rfl _ _ _) rfl ?_
    exact ⟨_, by rw [E1.out]; rfl, by rw [E2.out]; exact canon_zero, B1.out⟩
  · obtain ⟨k, rfl, hk, hv⟩ := statR_at (show statR a l d s n c hub tip i = true from by unfold canB at hc; rw [Bool.and_eq_true] at hc; exact hc.1)
    have HV : Hid (validP a l d = true) := Lib.hid (by unfold validR at hv; rw [Bool.and_eq_true] at hv; exact hv.1)
    have HRA := Lib.hid (rotAt hv hk); clear hv
    cases hf : flowB f
    · obtain ⟨e1, e2⟩ := bal_flow_no (a := a) (l := l) (d := d) (s := s) (n := n) (c := c) (hub := hub) (tip := tip) (i := k) (wi := wi) (sp := sp) (p := p) hf
      have E1 := Lib.hid e1
      have E2 := Lib.hid e2
      have HC := Lib.hid hc; clear hc e1 e2
      have HFL := Lib.hid hf; clear hf
      go_enter Try.func29, Try.ntmps29
      go_wp2_with fail
      refine (s_l03Can A L D S ca cl cd n cs c hub tip a l d s k w.heap.size wi sp p _ (HR _).out HN.out (HK _).out).mono ?_
      rintro e w1 ⟨rfl, b1⟩
      rw [HC.out]
      have B1 : Hid (Below w.heap.size w w1) := Lib.hid (below_of (HB _).out (HB _).out.size b1)
      clear b1
      go_wp2_with fail
      refine (s_l03Flow _ _).mono ?_
      rintro e w' ⟨rfl, rfl⟩
      rw [HFL.out]
      go_wp2
      refine bodyPost_ret (results_tmp2 rfl _ _ _) rfl ?_
      exact ⟨_, by rw [E1.out]; rfl, by rw [E2.out]; exact canon_zero, B1.out⟩
    · obtain ⟨ha, e1, e2⟩ := bal_yes hc hf
      have HA := Lib.hid ha
      have E1 := Lib.hid e1
      have E2 := Lib.hid e2
      have HC := Lib.hid hc; clear hc e1 e2 ha
      have HFL := Lib.hid hf; clear hf
      go_enter Try.func29, Try.ntmps29
      go_wp2_with fail
      refine (s_l03Can A L D S ca cl cd n cs c hub tip a l d s k w.heap.size wi sp p _ (HR _).out HN.out (HK _).out).mono ?_
      rintro e w1 ⟨rfl, b1⟩
      rw [HC.out]
      have B1 : Hid (Below w.heap.size w w1) := Lib.hid (below_of (HB _).out (HB _).out.size b1)
      have K1 : Hid (Blk7 w1 w.heap.size A L D S a l d ca cl cd n cs c hub tip) := Lib.hid ((HK _).out.below b1)
      have R1 : Hid (Rt w1 A L D S a l d s) := Lib.hid ((HR _).out.below b1)
      clear b1
      go_wp2_with fail
      refine (s_l03Flow _ _).mono ?_
      rintro e w' ⟨rfl, rfl⟩
      rw [HFL.out]
      go_wp2_with fail
      refine (s_l03Balance A L D S ca cl cd n cs c hub tip a l d s k w.heap.size f wi sp p _ R1.out hn1 hk hn2 K1.out HRA.out HV.out HA.out).mono ?_
      rintro e w2 ⟨r2, rfl, c2, b2⟩
      have C2 := Lib.hid c2
      have B2 : Hid (Below w.heap.size w w2) := Lib.hid (below_of B1.out B1.out.size b2)
      clear c2 b2
      go_wp2_with fail
      refine (s_l03NumberC _ _ _ C2.out).mono ?_
      rintro e w' ⟨r3, m3, rfl, c3, rfl⟩
      have C3 := Lib.hid c3; clear c3
      go_wp2
      refine bodyPost_ret (results_tmp2 rfl _ _ _) rfl ?_
      exact ⟨_, by rw [E1.out]; rfl, by rw [E2.out]; exact C3.out, below_draws B2.out _⟩
end Go.Proofs.Ytigfonnlhiedhaa
