/- PushesAt: both sides. No statement is proved here. -/
import Derived.Test.YtahbcpjipomcgaaGreatPush
namespace Go.Proofs.YtahbcpjipomcgaaGreat
open Go Go.RowKit
theorem fin_flow {f : Nat} (h : flowB f = true) : fin .f32 f = true := by
  unfold flowB within at h
  rw [Bool.and_eq_true] at h
  obtain ⟨h1, h2⟩ := h
  unfold geq32 Ieee.Format.order at h1
  unfold leq32 Ieee.Format.order at h2
  have d1 : FloatKind.f32.format.read f = FloatKind.f32.decode f := rfl
  rw [d1] at h1 h2
  have c1 : FloatKind.f32.format.read 981668463 = .number false 8589935 (-33) := by decide +kernel
  have c2 : FloatKind.f32.format.read 1048508891 = .number false 16710107 (-26) := by decide +kernel
  rw [c1] at h1
  rw [c2] at h2
  cases hx : FloatKind.f32.decode f with
  | number s m i => unfold fin; rw [hx]
  | nan s g => rw [hx] at h1; cases h1
  | infinity s =>
    rw [hx] at h1 h2
    cases s
    · have k : ((Ieee.Datum.infinity false).order (Ieee.Datum.number false 16710107 (-26)) == some Ordering.lt || (Ieee.Datum.infinity false).order (Ieee.Datum.number false 16710107 (-26)) == some Ordering.eq) = false := by decide
      rw [k] at h2; cases h2
    · have k : ((Ieee.Datum.infinity true).order (Ieee.Datum.number false 8589935 (-33)) == some Ordering.gt || (Ieee.Datum.infinity true).order (Ieee.Datum.number false 8589935 (-33)) == some Ordering.eq) = false := by decide
      rw [k] at h1; cases h1
theorem flow_bd {f : Nat} (h : flowB f = true) : Bd .f32 0 f := by
  have hf := fin_flow h
  unfold flowB within at h
  rw [Bool.and_eq_true] at h
  obtain ⟨h1, h2⟩ := h
  have f1 : fin .f32 981668463 = true := by decide +kernel
  have f2 : fin .f32 1048508891 = true := by decide +kernel
  have k1 : - 2 ^ 148 ≤ key 981668463 := by decide +kernel
  have k2 : key 1048508891 ≤ 2 ^ 148 := by decide +kernel
  have h3 := lss_not_geq (isn_of_fin hf) (isn_of_fin f1)
  rw [h1, lss_key hf f1] at h3
  rw [leq_key hf f2] at h2
  have h3 : key 981668463 ≤ key f := by simpa using h3
  have h2 := of_decide_eq_true h2
  exact bd_mono (key_bd hf (by omega) (by omega)) (by decide)
theorem bd_c1 : Bd .f32 0 981668463 := flow_bd (by decide +kernel)
theorem bd_c2 : Bd .f32 0 1048508891 := flow_bd (by decide +kernel)
/-- whether the angle is finite does not turn on the flow -/
theorem ang_flow {z f g p : Nat} (hf : Bd .f32 0 f) (hg : Bd .f32 0 g) (hz : fin .f32 z = true) (hp : fin .f32 p = true) : fin .f32 (angZ z f p) = fin .f32 (angZ z g p) := by
  unfold angZ
  rw [canon_of_not (isn_of_fin hz), canon_of_not (isn_of_fin hp), bd_canon hf, bd_canon hg]
  exact fin_sub_sub hf hg hz hp
theorem atV_canon' {a m : List Nat} {x : Nat} (h : fin .f32 (canon .f32 x) = true) : atV a m x = atV a m (canon .f32 x) := by
  rw [fin_canon] at h
  rw [canon_of_not (isn_of_fin h)]
set_option maxHeartbeats 2000000 in
theorem s_l03Angle (A L D S : Option Addr) (ca cl cd n cs : Nat) (c : Int) (hub tip : Nat) (a l d s : List Nat) (k B p : Nat) (w : World) (h : Fl w S s) (hs : s.length = n * 3) (hkn : k < n) (hk : Blk7 w B A L D S a l d ca cl cd n cs c hub tip) :
    Calls Tryz.prog 91 #[.pointer (some ⟨B, 0, none⟩), .int .i64 k, .float .f32 p] w fun e w' => ∃ m, e = .returned (.bool (fin .f32 (angZ (twi s k) 981668463 p) && fin .f32 (angZ (twi s k) 1048508891 p))) ∧ w' = w.drewN m := by
  obtain ⟨b, off, rfl, -, hc0⟩ := h.at_ (k := k * 3) (by omega)
  have hc2 := h.same rfl (k := k * 3 + 2) (by omega)
  rw [← Nat.add_assoc] at hc2
  clear h hc0
  obtain ⟨z, hz⟩ : ∃ x, x = twi s k := ⟨_, rfl⟩
  rw [show s.getD (k * 3 + 2) 0 = z from hz.symm] at hc2
  rw [← hz]
  clear hz
  obtain ⟨k0, k1, k2, k3, k4, k5, k6⟩ := hk.limbs
  clear hk
  cases h1 : fin .f32 (angZ z 981668463 p)
  all_goals
    have H1 := Lib.hid h1; clear h1
    go_enter Tryz.func91, Tryz.ntmps91
    go_wp2_with fail
    refine (s_l01Finite _ _).mono ?_
    rintro e w' ⟨m1, rfl, rfl⟩
    rw [show fin .f32 _ = fin .f32 (angZ z 981668463 p) from by rw [← fin_canon, canonF (canonF rfl rfl) rfl]; rfl, H1.out]
  · go_wp2
    go_ret
    exact ⟨_, rfl, by first | rfl | (simp only [World.drewN_drewN]; rfl)⟩
  · go_wp2_with fail
    refine (s_l01Finite _ _).mono ?_
    rintro e w' ⟨m2, rfl, rfl⟩
    rw [show fin .f32 _ = fin .f32 (angZ z 1048508891 p) from by rw [← fin_canon, canonF (canonF rfl rfl) rfl]; rfl]
    go_wp2
    go_ret
    exact ⟨_, rfl, by first | rfl | (simp only [World.drewN_drewN]; rfl)⟩
set_option maxHeartbeats 4000000 in
set_option maxRecDepth 100000 in
theorem s_l03Pushes (A L D S : Option Addr) (ca cl cd n cs : Nat) (c : Int) (hub tip : Nat) (a l d s : List Nat) (k B f p : Nat) (w : World) (h : Rt w A L D S a l d s) (hs : s.length = n * 3) (hkn : k < n) (hk : Blk7 w B A L D S a l d ca cl cd n cs c hub tip) (hv : validP a l d = true) (ha : fin .f32 (angZ (twi s k) f p) = true) :
    Calls Tryz.prog 105 #[.pointer (some ⟨B, 0, none⟩), .int .i64 k, .float .f32 f, .float .f32 p] w fun e w' => ∃ r t m, e = .returned (.tuple #[.float .f32 r, .float .f32 t]) ∧ canon .f32 r = pusN a l d (twi s k) f p ∧ canon .f32 t = pusT a l d (twi s k) f p ∧ w' = w.drewN m := by
  have HP := Lib.hid h.1
  obtain ⟨b, off, rfl, -, hc0⟩ := h.2.at_ (k := k * 3) (by omega)
  have hc2 := h.2.same rfl (k := k * 3 + 2) (by omega)
  rw [← Nat.add_assoc] at hc2
  clear h hc0
  have HK3 := Lib.hid hk.blk3
  obtain ⟨z, hz⟩ : ∃ x, x = twi s k := ⟨_, rfl⟩
  rw [show s.getD (k * 3 + 2) 0 = z from hz.symm] at hc2
  rw [← hz] at ha ⊢
  clear hz
  have HA := Lib.hid ha; clear ha
  have HV := Lib.hid hv; clear hv
  obtain ⟨k0, k1, k2, k3, k4, k5, k6⟩ := hk.limbs
  clear hk
  have HX : ∀ x, canon .f32 x = angZ z f p → canSpan' a l d x = true := fun x hx => by unfold canSpan'; rw [HV.out, ← fin_canon, hx, HA.out]; rfl
  have HXH := Lib.hid HX; clear HX
  have HY : ∀ x m, canon .f32 x = angZ z f p → atV a m x = atV a m (angZ z f p) := fun x m hx => by rw [atV_canon' (by rw [hx]; exact HA.out), hx]
  have HYH := Lib.hid HY; clear HY
  have HPD : ∀ m, Hid (Pf (w.drewN m) A L D a l d) := fun _ => HP
  have HKD : ∀ m, Hid (Blk3 (w.drewN m) B (.slice A a.length ca) (.slice L l.length cl) (.slice D d.length cd)) := fun _ => HK3
  go_enter Tryz.func105, Tryz.ntmps105
  go_wp2_with fail
  refine (s_l02Lift A L D ca cl cd a l d _ B _ (HPD _).out (HKD _).out (HXH.out _ (canonF (canonF rfl rfl) rfl))).mono ?_
  rintro e w' ⟨r1, m1, rfl, c1, rfl⟩
  have C1 : Hid (canon .f32 r1 = atV a l (angZ z f p)) := Lib.hid (by rw [c1]; exact HYH.out _ _ (canonF (canonF rfl rfl) rfl))
  clear c1
  go_wp2_with fail
  refine (s_l02Drag A L D ca cl cd a l d _ B _ (HPD _).out (HKD _).out (HXH.out _ (canonF (canonF rfl rfl) rfl))).mono ?_
  rintro e w' ⟨r2, m2, rfl, c2, rfl⟩
  have C2 : Hid (canon .f32 r2 = atV a d (angZ z f p)) := Lib.hid (by rw [c2]; exact HYH.out _ _ (canonF (canonF rfl rfl) rfl))
  clear c2
  go_wp2_with fail
  refine (s_l01Sine _ _).mono ?_
  rintro e w' ⟨r3, m3, rfl, c3, rfl⟩
  have C3 : Hid (canon .f32 r3 = sinC f) := Lib.hid c3
  clear c3
  go_wp2_with fail
  refine (s_l01Sine _ _).mono ?_
  rintro e w' ⟨r4, m4, rfl, c4, rfl⟩
  have C4 : Hid (canon .f32 r4 = cosC f) := Lib.hid (by rw [c4, canonF rfl rfl]; rfl)
  clear c4
  go_wp2
  go_ret2
  have E1 : ∀ {W1 W2 W3 : World}, canon .f32 (fopV .add .f32 (fopV .mul .f32 r1 r4 W1) (fopV .mul .f32 r2 r3 W2) W3) = pusN a l d z f p := canonF (canonF C1.out C4.out) (canonF C2.out C3.out)
  have E2 : ∀ {W1 W2 W3 : World}, canon .f32 (fopV .sub .f32 (fopV .mul .f32 r1 r3 W1) (fopV .mul .f32 r2 r4 W2) W3) = pusT a l d z f p := canonF (canonF C1.out C3.out) (canonF C2.out C4.out)
  exact ⟨_, _, _, rfl, E1, E2, rfl⟩
end Go.Proofs.YtahbcpjipomcgaaGreat
