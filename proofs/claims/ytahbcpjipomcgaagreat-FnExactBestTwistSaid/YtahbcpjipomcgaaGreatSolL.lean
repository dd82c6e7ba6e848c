/- How much of a ring is blade, what the tip leaves: both sides. No statement is proved here. -/
import Derived.Test.YtahbcpjipomcgaaGreatBlade
import Derived.Test.YtahbcpjipomcgaaGreatFin
import Derived.StillTailTactics
namespace Go.Proofs.YtahbcpjipomcgaaGreat
open Go Go.RowKit
theorem i_solidity (x y z q tip : Nat) (A L D : Option Addr) (ca cl cd : Nat) (a l d : List Nat) (w : World) :
    Calls Tryz.prog 115 #[.agg #[.float .f32 x, .float .f32 y, .float .f32 z, .slice A a.length ca, .slice L l.length cl, .slice D d.length cd, .float .f32 q, .float .f32 tip]] w fun e w' => ∃ r, e = .returned (.float .f32 r) ∧ canon .f32 r = fop .quo .f32 (fop .mul .f32 (canon .f32 q) (canon .f32 y)) (fop .mul .f32 (canon .f32 1086918619) (canon .f32 x)) ∧ Below w.heap.size w w' := by
  have HB : ∀ o1, Hid (Below w.heap.size w (w.alloc o1)) := fun _ => Lib.hid ((Below.refl _ _).alloc (Nat.le_refl _) _)
  go_enter Tryz.func115, Tryz.ntmps115
  go_wp2
  go_ret
  exact ⟨_, rfl, canonF (canonF rfl rfl) (canonF rfl rfl), by first | exact (HB _).out | exact below_draws (HB _).out _ | exact below_draws (below_draws (HB _).out _) _ | exact below_draws (below_draws (below_draws (HB _).out _) _) _⟩
set_option maxRecDepth 100000 in
theorem i_tipShare (x y z q tip : Nat) (A L D : Option Addr) (ca cl cd : Nat) (a l d : List Nat) (f : Nat) (w : World) :
    Calls Tryz.prog 114 #[.agg #[.float .f32 x, .float .f32 y, .float .f32 z, .slice A a.length ca, .slice L l.length cl, .slice D d.length cd, .float .f32 q, .float .f32 tip], .float .f32 f] w fun e w' => ∃ r, e = .returned (.float .f32 r) ∧ canon .f32 r = (fun qq => fop .quo .f32 qq (fop .add .f32 qq (sinC f))) (fop .quo .f32 (fop .mul .f32 (canon .f32 q) (fop .sub .f32 (canon .f32 tip) (canon .f32 x))) (fop .mul .f32 (canon .f32 1073741824) (canon .f32 x))) ∧ Below w.heap.size w w' := by
  have HB : ∀ o1, Hid (Below w.heap.size w (w.alloc o1)) := fun _ => Lib.hid ((Below.refl _ _).alloc (Nat.le_refl _) _)
  go_enter Tryz.func114, Tryz.ntmps114
  go_wp2_with fail
  refine (i_SineTurns _ _).mono ?_
  rintro e w' ⟨r, m, rfl, hr, rfl⟩
  have HRR : Hid (canon .f32 r = sinC f) := Lib.hid hr
  clear hr
  go_wp2
  go_ret
  exact ⟨_, rfl, canonF (canonF (canonF rfl (canonF rfl rfl)) (canonF rfl rfl)) (canonF (canonF (canonF rfl (canonF rfl rfl)) (canonF rfl rfl)) HRR.out), by first | exact (HB _).out | exact below_draws (HB _).out _ | exact below_draws (below_draws (HB _).out _) _ | exact below_draws (below_draws (below_draws (HB _).out _) _) _⟩
set_option maxHeartbeats 2000000 in
theorem s_l03Station (A L D S : Option Addr) (ca cl cd n cs : Nat) (c : Int) (hub tip : Nat) (a l d s : List Nat) (i : Int) (B : Nat) (w : World) (h : Rt w A L D S a l d s) (hn : FewR a l d s n) (hk : Blk7 w B A L D S a l d ca cl cd n cs c hub tip) :
    Calls Tryz.prog 90 #[.pointer (some ⟨B, 0, none⟩), .int .i64 i] w fun e w' => e = .returned (.bool (statR a l d s n c hub tip i)) ∧ Below w.heap.size w w' := by
  have hn2 : n ≤ 1048576 := by have := hn.2; omega
  have HR := Lib.hid h
  have HK := Lib.hid hk
  have HN := Lib.hid hn; clear hn h hk
  cases v : validR a l d s n c hub tip
  · have HV : Hid (statR a l d s n c hub tip i = false) := Lib.hid (statR_v v)
    have V := Lib.hid v; clear v
    go_enter Tryz.func90, Tryz.ntmps90
    go_wp2_with fail
    refine (s_l03Is A L D S ca cl cd n cs c hub tip a l d s B _ HR.out HN.out HK.out).mono ?_
    rintro e w1 ⟨rfl, b1⟩
    rw [V.out]
    have B1 : Hid (Below w.heap.size w w1) := Lib.hid b1
    clear b1
    go_wp2
    go_ret
    exact ⟨by rw [HV.out]; rfl, B1.out⟩
  · have HV : Hid (statR a l d s n c hub tip i = (decide (0 ≤ i) && decide (i ≤ (n : Int) - 1))) := Lib.hid (by
      unfold statR; rw [v, Bool.true_and, show decide (i < (n : Int)) = decide (i ≤ (n : Int) - 1) from by rw [decide_eq_decide]; omega])
    have V := Lib.hid v; clear v
    have hw1 : IntKind.i64.wrap ((n : Int) - 1) = (n : Int) - 1 := IntWalk.i64_in _ (by omega)
    go_enter Tryz.func90, Tryz.ntmps90
    go_wp2_with fail
    refine (s_l03Is A L D S ca cl cd n cs c hub tip a l d s B _ HR.out HN.out HK.out).mono ?_
    rintro e w1 ⟨rfl, b1⟩
    rw [V.out]
    have B1 : Hid (Below w.heap.size w w1) := Lib.hid b1
    obtain ⟨k0, k1, k2, k3, k4, k5, k6⟩ := (HK.out.below b1).limbs
    clear b1
    go_wp2_with fail
    refine (s_l00In _ _ _ _).mono ?_
    rintro e w' ⟨rfl, rfl⟩
    go_wp2
    go_ret
    exact ⟨by rw [HV.out]; first | rfl | (simp; done), B1.out⟩
set_option maxHeartbeats 4000000 in
set_option maxRecDepth 100000 in
theorem s_l03Solidity (A L D S : Option Addr) (ca cl cd n cs : Nat) (c : Int) (hub tip : Nat) (a l d s : List Nat) (k B : Nat) (w : World) (h : Fl w S s) (hs : s.length = n * 3) (hkn : k < n) (_hn2 : n ≤ 1048576) (hk : Blk7 w B A L D S a l d ca cl cd n cs c hub tip) (hr : RotAt s c hub tip k) :
    Calls Tryz.prog 108 #[.pointer (some ⟨B, 0, none⟩), .int .i64 k] w fun e w' => ∃ r, e = .returned (.float .f32 r) ∧ canon .f32 r = solV s c k ∧ Below w.heap.size w w' := by
  obtain ⟨b, off, rfl, -, hc0⟩ := h.at_ (k := k * 3) (by omega)
  have hc1 := h.same rfl (k := k * 3 + 1) (by omega)
  have hc2 := h.same rfl (k := k * 3 + 2) (by omega)
  rw [← Nat.add_assoc] at hc1 hc2
  clear h
  have HS : Hid (solV s c k = fop .quo .f32 (fop .mul .f32 (cntF c) (canon .f32 (chd s k))) (fop .mul .f32 (canon .f32 1086918619) (canon .f32 (rad s k)))) := rfl
  obtain ⟨x, hx⟩ : ∃ x, x = rad s k := ⟨_, rfl⟩
  obtain ⟨y, hy⟩ : ∃ x, x = chd s k := ⟨_, rfl⟩
  obtain ⟨z, hz⟩ : ∃ x, x = twi s k := ⟨_, rfl⟩
  have hq := cnt_some0 hr.c1 hr.c6
  have hfy := hr.chd
  have hfx := hr.rad
  rw [← hx, ← hy] at HS
  rw [← hy] at hfy
  rw [← hx] at hfx
  clear hr
  obtain ⟨e1, e2⟩ := fop_sure (mul_num hq (isn_of_fin hfy))
  obtain ⟨e3, e4⟩ := fop_sure (mul_num ring_some0 (isn_of_fin hfx))
  have E1 := Lib.hid (canon_fop .mul .f32 (floatOfInt .f32 c) y)
  have C1 : Hid (canon .f32 (fop .mul .f32 (floatOfInt .f32 c) y) = fop .mul .f32 (cntF c) (canon .f32 y)) := Lib.hid (by rw [← e1 w]; exact canonF rfl rfl)
  have C2 : Hid (canon .f32 (fop .mul .f32 1086918619 x) = fop .mul .f32 (canon .f32 1086918619) (canon .f32 x)) := Lib.hid (by rw [← e3 w]; exact canonF rfl rfl)
  clear hq hfy hfx E1
  rw [show s.getD (k * 3) 0 = x from hx.symm] at hc0
  rw [show s.getD (k * 3 + 1) 0 = y from hy.symm] at hc1
  rw [show s.getD (k * 3 + 2) 0 = z from hz.symm] at hc2
  clear hx hy hz
  have HK := Lib.hid hk
  obtain ⟨k0, k1, k2, k3, k4, k5, k6⟩ := hk.limbs
  clear hk
  have HB0 : Hid (Below w.heap.size w (w.alloc (.cells #[.float .f32 x, .float .f32 y, .float .f32 z] 68))) := Lib.hid ((Below.refl _ _).alloc (Nat.le_refl _) _)
  go_enter Tryz.func108, Tryz.ntmps108
  go_wp2_with fail
  clear k0 k1 k2 k3 k4 k5 k6 hc0 hc1 hc2
  have kS := blk3_new w (.float .f32 x) (.float .f32 y) (.float .f32 z) 68
  have HK2 := Lib.hid (HK.out.below HB0.out)
  generalize w.alloc (.cells #[.float .f32 x, .float .f32 y, .float .f32 z] 68) = w2 at kS HB0 HK2
  generalize w.heap.size = bs at kS
  obtain ⟨-, ⟨s0, s1, s2⟩, -, -, -⟩ := kS
  obtain ⟨k0, k1, k2, k3, k4, k5, k6⟩ := HK2.out.limbs
  refine wp_region_still_tail 11 (by kernel_rfl) (by kernel_rfl) ?_
  simp only [List.take_succ_cons, List.take_zero, List.drop_succ_cons, List.drop_zero]
  repeat (refine wpStill_step (fun K hK => ?_); go_simp; first | (refine hK _ ?_; clear hK K) | (refine ⟨rfl, hK _ ?_⟩; clear hK K))
  try refine wpStill_nil ?_
  change wpList _ _ _ _ _ w2.drew
  have HB1 : Hid (Below _ w w2.drew) := Lib.hid HB0.out.drew
  generalize w2.drew = w3 at HB1
  go_wp2
  go_ret
  exact ⟨_, rfl, by rw [HS.out]; exact canonF C1.out C2.out, by first | exact HB1.out | exact below_draws HB1.out _ | exact below_draws (below_draws HB1.out _) _ | exact below_draws (below_draws (below_draws HB1.out _) _) _⟩
set_option maxHeartbeats 4000000 in
set_option maxRecDepth 100000 in
theorem s_l03Tip (A L D S : Option Addr) (ca cl cd n cs : Nat) (c : Int) (hub tip : Nat) (a l d s : List Nat) (k B f : Nat) (w : World) (h : Fl w S s) (hs : s.length = n * 3) (hkn : k < n) (_hn2 : n ≤ 1048576) (hk : Blk7 w B A L D S a l d ca cl cd n cs c hub tip) (hr : RotAt s c hub tip k) :
    Calls Tryz.prog 107 #[.pointer (some ⟨B, 0, none⟩), .int .i64 k, .float .f32 f] w fun e w' => ∃ r, e = .returned (.float .f32 r) ∧ canon .f32 r = tipV s c tip k (canon .f32 f) ∧ Below w.heap.size w w' := by
  obtain ⟨b, off, rfl, -, hc0⟩ := h.at_ (k := k * 3) (by omega)
  have hc1 := h.same rfl (k := k * 3 + 1) (by omega)
  have hc2 := h.same rfl (k := k * 3 + 2) (by omega)
  rw [← Nat.add_assoc] at hc1 hc2
  clear h
  have HS : Hid (tipV s c tip k (canon .f32 f) = (fun qq => fop .quo .f32 qq (fop .add .f32 qq (canon .f32 f))) (fop .quo .f32 (fop .mul .f32 (cntF c) (fop .sub .f32 (canon .f32 tip) (canon .f32 (rad s k)))) (fop .mul .f32 (canon .f32 1073741824) (canon .f32 (rad s k))))) := rfl
  obtain ⟨x, hx⟩ : ∃ x, x = rad s k := ⟨_, rfl⟩
  obtain ⟨y, hy⟩ : ∃ x, x = chd s k := ⟨_, rfl⟩
  obtain ⟨z, hz⟩ : ∃ x, x = twi s k := ⟨_, rfl⟩
  have hq := cnt_some0 hr.c1 hr.c6
  have hft := hr.tip
  have hfx := hr.rad
  rw [← hx] at HS
  rw [← hx] at hfx
  clear hr
  obtain ⟨e1, e2⟩ := fop_sure (sub_num hft hfx)
  obtain ⟨e3, e4⟩ := fop_sure (mul_num hq (sub_num hft hfx))
  obtain ⟨e5, e6⟩ := fop_sure (mul_num two_some0 (isn_of_fin hfx))
  have C1 : Hid (canon .f32 (fop .mul .f32 (floatOfInt .f32 c) (fop .sub .f32 tip x)) = fop .mul .f32 (cntF c) (fop .sub .f32 (canon .f32 tip) (canon .f32 x))) := Lib.hid (by rw [← e3 w, ← e1 w]; exact canonF rfl (canonF rfl rfl))
  have C2 : Hid (canon .f32 (fop .mul .f32 1073741824 x) = fop .mul .f32 (canon .f32 1073741824) (canon .f32 x)) := Lib.hid (by rw [← e5 w]; exact canonF rfl rfl)
  clear hq hft hfx
  rw [show s.getD (k * 3) 0 = x from hx.symm] at hc0
  rw [show s.getD (k * 3 + 1) 0 = y from hy.symm] at hc1
  rw [show s.getD (k * 3 + 2) 0 = z from hz.symm] at hc2
  clear hx hy hz
  have HK := Lib.hid hk
  obtain ⟨k0, k1, k2, k3, k4, k5, k6⟩ := hk.limbs
  clear hk
  have HB0 : Hid (Below w.heap.size w (w.alloc (.cells #[.float .f32 x, .float .f32 y, .float .f32 z] 68))) := Lib.hid ((Below.refl _ _).alloc (Nat.le_refl _) _)
  go_enter Tryz.func107, Tryz.ntmps107
  go_wp2_with fail
  clear k0 k1 k2 k3 k4 k5 k6 hc0 hc1 hc2
  have kS := blk3_new w (.float .f32 x) (.float .f32 y) (.float .f32 z) 68
  have HK2 := Lib.hid (HK.out.below HB0.out)
  generalize w.alloc (.cells #[.float .f32 x, .float .f32 y, .float .f32 z] 68) = w2 at kS HB0 HK2
  generalize w.heap.size = bs at kS
  obtain ⟨-, ⟨s0, s1, s2⟩, -, -, -⟩ := kS
  obtain ⟨k0, k1, k2, k3, k4, k5, k6⟩ := HK2.out.limbs
  refine wp_region_still_tail 16 (by kernel_rfl) (by kernel_rfl) ?_
  simp only [List.take_succ_cons, List.take_zero, List.drop_succ_cons, List.drop_zero]
  repeat (refine wpStill_step (fun K hK => ?_); go_simp; first | (refine hK _ ?_; clear hK K) | (refine ⟨rfl, hK _ ?_⟩; clear hK K))
  try refine wpStill_nil ?_
  change wpList _ _ _ _ _ w2.drew
  have HB1 : Hid (Below _ w w2.drew) := Lib.hid HB0.out.drew
  generalize w2.drew = w3 at HB1
  go_wp2
  go_ret
  exact ⟨_, rfl, by rw [HS.out]; exact canonF (canonF C1.out C2.out) (canonF (canonF C1.out C2.out) rfl), by first | exact HB1.out | exact below_draws HB1.out _ | exact below_draws (below_draws HB1.out _) _ | exact below_draws (below_draws (below_draws HB1.out _) _) _⟩
end Go.Proofs.YtahbcpjipomcgaaGreat
