/- How air meets a blade in balance: the program's side. No statement is proved here. -/
import Derived.Test.YtigfonnlhiedhaaFloI
namespace Go.Proofs.Ytigfonnlhiedhaa
open Go Go.RowKit
def mibG (a l d : List Nat) (q tip x y z wi sp p : Nat) : Bool := (flowS a l d q tip x y z wi sp p 24).isSome && puG a l d z (flV (flowS a l d q tip x y z wi sp p 24)) p
set_option maxHeartbeats 8000000 in
set_option maxRecDepth 100000 in
theorem i_mib_no (x y z q tip : Nat) (A L D : Option Addr) (ca cl cd : Nat) (a l d : List Nat) (wi sp p : Nat) (w : World) (h : Pf w A L D a l d) (hn : Few a l d) (hv : validP a l d = true) (hg : mibG a l d q tip x y z wi sp p = false) :
    Calls Try.prog 73 #[.agg #[.float .f32 x, .float .f32 y, .float .f32 z, .slice A a.length ca, .slice L l.length cl, .slice D d.length cd, .float .f32 q, .float .f32 tip], .agg #[.float .f32 wi, .float .f32 sp, .float .f32 p]] w fun e w' => e = .returned (.tuple #[.agg #[.float .f32 0, .float .f32 0, .float .f32 0, .float .f32 0, .float .f32 0, .float .f32 0], .bool false]) ∧ Below w.heap.size w w' := by
  have HB3 : ∀ o1 o2 o3, Hid (Below w.heap.size w (((w.alloc o1).alloc o2).alloc o3)) := fun _ _ _ => Lib.hid ((((Below.refl _ _).alloc (Nat.le_refl _) _).alloc (by simp) _).alloc (by simp; omega) _)
  have HK0 : ∀ t o o', Hid (BlkB (((w.alloc (.cells #[.float .f32 x, .float .f32 y, .float .f32 z, .slice A a.length ca, .slice L l.length cl, .slice D d.length cd, .float .f32 q, .float .f32 tip] t)).alloc o).alloc o') w.heap.size x y z A L D a l d ca cl cd q tip) := fun t o o' => Lib.hid (((blkL_at w #[.float .f32 x, .float .f32 y, .float .f32 z, .slice A a.length ca, .slice L l.length cl, .slice D d.length cd, .float .f32 q, .float .f32 tip] t rfl).alloc o).alloc o')
  have HK1 : ∀ o t o', Hid (BlkL (((w.alloc o).alloc (.cells #[.float .f32 wi, .float .f32 sp, .float .f32 p] t)).alloc o') (w.heap.size + 1) [.float .f32 wi, .float .f32 sp, .float .f32 p]) := fun o t o' => Lib.hid ((blkL_at (w.alloc o) #[.float .f32 wi, .float .f32 sp, .float .f32 p] t (by simp)).alloc o')
  have HK2 : ∀ o o' t, Hid (BlkL (((w.alloc o).alloc o').alloc (.cells #[.float .f32 0, .float .f32 0, .float .f32 0, .float .f32 0, .float .f32 0, .float .f32 0] t)) (w.heap.size + 2) [.float .f32 0, .float .f32 0, .float .f32 0, .float .f32 0, .float .f32 0, .float .f32 0]) := fun o o' t => Lib.hid (blkL_at ((w.alloc o).alloc o') #[.float .f32 0, .float .f32 0, .float .f32 0, .float .f32 0, .float .f32 0, .float .f32 0] t (by simp))
  have hb2 : w.heap.size ≤ w.heap.size + 2 := by omega
  have HP := Lib.hid h; clear h
  have HN := Lib.hid hn; clear hn
  have HV := Lib.hid hv; clear hv
  cases hst : flowS a l d q tip x y z wi sp p 24 with
  | none =>
    have HST : Hid ((flowS a l d q tip x y z wi sp p 24).isSome = false) := Lib.hid (by rw [hst]; rfl)
    clear hst hg
    go_enter Try.func73, Try.ntmps73
    go_wp2_with fail
    refine (i_balanceOn x y z q tip A L D ca cl cd a l d wi sp p _).mono ?_
    rintro e w3 ⟨p1, p2, rfl, hb1, hc1, b3⟩
    have B3 : Hid (Below w.heap.size w w3) := Lib.hid (below_of (HB3 _ _ _).out (HB3 _ _ _).out.size b3)
    have K0 : Hid (BlkB w3 w.heap.size x y z A L D a l d ca cl cd q tip) := Lib.hid ((HK0 _ _ _).out.below b3)
    have K1 : Hid (BlkL w3 (w.heap.size + 1) [.float .f32 wi, .float .f32 sp, .float .f32 p]) := Lib.hid ((HK1 _ _ _).out.below b3)
    have K2 : Hid (BlkL w3 (w.heap.size + 2) [.float .f32 0, .float .f32 0, .float .f32 0, .float .f32 0, .float .f32 0, .float .f32 0]) := Lib.hid ((HK2 _ _ _).out.below b3)
    have HBB := Lib.hid hb1
    have HCC := Lib.hid hc1
    clear b3 hb1 hc1
    go_wp2_with fail
    refine (i_flowByHalves _ _ _ _ _ _ _ A L D ca cl cd a l d wi sp p _ (HP.out.below B3.out) HN.out HV.out HBB.out HCC.out).mono ?_
    rintro e w4 ⟨rfl, b4⟩
    have B4 : Hid (Below w.heap.size w w4) := Lib.hid (below_of B3.out B3.out.size b4)
    have K0' : Hid (BlkB w4 w.heap.size x y z A L D a l d ca cl cd q tip) := Lib.hid (K0.out.below b4)
    have K1' : Hid (BlkL w4 (w.heap.size + 1) [.float .f32 wi, .float .f32 sp, .float .f32 p]) := Lib.hid (K1.out.below b4)
    have K2' : Hid (BlkL w4 (w.heap.size + 2) [.float .f32 0, .float .f32 0, .float .f32 0, .float .f32 0, .float .f32 0, .float .f32 0]) := Lib.hid (K2.out.below b4)
    clear b4
    rw [HST.out]
    obtain ⟨z0, f0⟩ := K2'.out.2 0 _ rfl
    obtain ⟨z1, f1⟩ := K2'.out.2 1 _ rfl
    obtain ⟨z2, f2⟩ := K2'.out.2 2 _ rfl
    obtain ⟨z3, f3⟩ := K2'.out.2 3 _ rfl
    obtain ⟨z4, f4⟩ := K2'.out.2 4 _ rfl
    obtain ⟨z5, f5⟩ := K2'.out.2 5 _ rfl
    go_wp2
    refine bodyPost_ret (v := .tuple #[.agg #[.float .f32 0, .float .f32 0, .float .f32 0, .float .f32 0, .float .f32 0, .float .f32 0], .bool false]) (by simp [results, Try.results73, go_sem, z0, z1, z2, z3, z4, z5]) rfl ⟨rfl, ?_⟩
    repeat (refine bset ?_ hb2 _ _)
    exact B4.out
  | some e =>
    have HST : Hid ((flowS a l d q tip x y z wi sp p 24).isSome = true) := Lib.hid (by rw [hst]; rfl)
    have HG : Hid (puG a l d z (flV (flowS a l d q tip x y z wi sp p 24)) p = false) := Lib.hid (by unfold mibG at hg; rw [HST.out, Bool.true_and] at hg; exact hg)
    clear hst hg
    obtain ⟨fl, hfl⟩ : ∃ v, v = (flV (flowS a l d q tip x y z wi sp p 24)) := ⟨_, rfl⟩
    rw [← hfl] at HG
    have HFLV := Lib.hid hfl; clear hfl
    go_enter Try.func73, Try.ntmps73
    go_wp2_with fail
    refine (i_balanceOn x y z q tip A L D ca cl cd a l d wi sp p _).mono ?_
    rintro e w3 ⟨p1, p2, rfl, hb1, hc1, b3⟩
    have B3 : Hid (Below w.heap.size w w3) := Lib.hid (below_of (HB3 _ _ _).out (HB3 _ _ _).out.size b3)
    have K0 : Hid (BlkB w3 w.heap.size x y z A L D a l d ca cl cd q tip) := Lib.hid ((HK0 _ _ _).out.below b3)
    have K1 : Hid (BlkL w3 (w.heap.size + 1) [.float .f32 wi, .float .f32 sp, .float .f32 p]) := Lib.hid ((HK1 _ _ _).out.below b3)
    have K2 : Hid (BlkL w3 (w.heap.size + 2) [.float .f32 0, .float .f32 0, .float .f32 0, .float .f32 0, .float .f32 0, .float .f32 0]) := Lib.hid ((HK2 _ _ _).out.below b3)
    have HBB := Lib.hid hb1
    have HCC := Lib.hid hc1
    clear b3 hb1 hc1
    go_wp2_with fail
    refine (i_flowByHalves _ _ _ _ _ _ _ A L D ca cl cd a l d wi sp p _ (HP.out.below B3.out) HN.out HV.out HBB.out HCC.out).mono ?_
    rintro e w4 ⟨rfl, b4⟩
    have B4 : Hid (Below w.heap.size w w4) := Lib.hid (below_of B3.out B3.out.size b4)
    have K0' : Hid (BlkB w4 w.heap.size x y z A L D a l d ca cl cd q tip) := Lib.hid (K0.out.below b4)
    have K1' : Hid (BlkL w4 (w.heap.size + 1) [.float .f32 wi, .float .f32 sp, .float .f32 p]) := Lib.hid (K1.out.below b4)
    have K2' : Hid (BlkL w4 (w.heap.size + 2) [.float .f32 0, .float .f32 0, .float .f32 0, .float .f32 0, .float .f32 0, .float .f32 0]) := Lib.hid (K2.out.below b4)
    clear b4
    rw [HST.out]
    rw [← HFLV.out]
    obtain ⟨k0, k1, k2, k3, k4, k5, k6, k7⟩ := K0'.out.limbs
    have c2 := (K1'.out.2 2 _ rfl).1
    go_wp2_with fail
    refine (i_meet_no x y z q tip A L D ca cl cd a l d fl p _ (HP.out.below B4.out) HN.out HV.out HG.out).mono ?_
    rintro e w5 ⟨rfl, b5⟩
    have K5 : Hid (BlkL w5 (w.heap.size + 2) [.float .f32 0, .float .f32 0, .float .f32 0, .float .f32 0, .float .f32 0, .float .f32 0]) := Lib.hid (K2'.out.below b5)
    have B5 : Hid (Below w.heap.size w w5) := Lib.hid (below_of B4.out B4.out.size b5)
    clear b5 k0 k1 k2 k3 k4 k5 k6 k7 c2
    obtain ⟨z0, f0⟩ := K5.out.2 0 _ rfl
    obtain ⟨z1, f1⟩ := K5.out.2 1 _ rfl
    obtain ⟨z2, f2⟩ := K5.out.2 2 _ rfl
    obtain ⟨z3, f3⟩ := K5.out.2 3 _ rfl
    obtain ⟨z4, f4⟩ := K5.out.2 4 _ rfl
    obtain ⟨z5, f5⟩ := K5.out.2 5 _ rfl
    go_wp2
    refine bodyPost_ret (v := .tuple #[.agg #[.float .f32 0, .float .f32 0, .float .f32 0, .float .f32 0, .float .f32 0, .float .f32 0], .bool false]) (by simp [results, Try.results73, go_sem, z0, z1, z2, z3, z4, z5]) rfl ⟨rfl, ?_⟩
    repeat (refine bset ?_ hb2 _ _)
    exact B5.out
set_option maxHeartbeats 8000000 in
set_option maxRecDepth 100000 in
theorem i_mib (x y z q tip : Nat) (A L D : Option Addr) (ca cl cd : Nat) (a l d : List Nat) (wi sp p : Nat) (w : World) (h : Pf w A L D a l d) (hn : Few a l d) (hv : validP a l d = true) (hg : mibG a l d q tip x y z wi sp p = true) :
    Calls Try.prog 73 #[.agg #[.float .f32 x, .float .f32 y, .float .f32 z, .slice A a.length ca, .slice L l.length cl, .slice D d.length cd, .float .f32 q, .float .f32 tip], .agg #[.float .f32 wi, .float .f32 sp, .float .f32 p]] w fun e w' => ∃ r3 r4 r1 r2 rk rm, e = .returned (.tuple #[.agg #[.float .f32 r3, .float .f32 r4, .float .f32 r1, .float .f32 r2, .float .f32 rk, .float .f32 rm], .bool true]) ∧ canon .f32 r1 = pusN a l d z (flV (flowS a l d q tip x y z wi sp p 24)) p ∧ canon .f32 r2 = pusT a l d z (flV (flowS a l d q tip x y z wi sp p 24)) p ∧ canon .f32 rk = kB a l d q tip x y z (flV (flowS a l d q tip x y z wi sp p 24)) p ∧ canon .f32 rm = mB a l d q tip x y z (flV (flowS a l d q tip x y z wi sp p 24)) p ∧ Below w.heap.size w w' := by
  have HB3 : ∀ o1 o2 o3, Hid (Below w.heap.size w (((w.alloc o1).alloc o2).alloc o3)) := fun _ _ _ => Lib.hid ((((Below.refl _ _).alloc (Nat.le_refl _) _).alloc (by simp) _).alloc (by simp; omega) _)
  have HK0 : ∀ t o o', Hid (BlkB (((w.alloc (.cells #[.float .f32 x, .float .f32 y, .float .f32 z, .slice A a.length ca, .slice L l.length cl, .slice D d.length cd, .float .f32 q, .float .f32 tip] t)).alloc o).alloc o') w.heap.size x y z A L D a l d ca cl cd q tip) := fun t o o' => Lib.hid (((blkL_at w #[.float .f32 x, .float .f32 y, .float .f32 z, .slice A a.length ca, .slice L l.length cl, .slice D d.length cd, .float .f32 q, .float .f32 tip] t rfl).alloc o).alloc o')
  have HK1 : ∀ o t o', Hid (BlkL (((w.alloc o).alloc (.cells #[.float .f32 wi, .float .f32 sp, .float .f32 p] t)).alloc o') (w.heap.size + 1) [.float .f32 wi, .float .f32 sp, .float .f32 p]) := fun o t o' => Lib.hid ((blkL_at (w.alloc o) #[.float .f32 wi, .float .f32 sp, .float .f32 p] t (by simp)).alloc o')
  have HK2 : ∀ o o' t, Hid (BlkL (((w.alloc o).alloc o').alloc (.cells #[.float .f32 0, .float .f32 0, .float .f32 0, .float .f32 0, .float .f32 0, .float .f32 0] t)) (w.heap.size + 2) [.float .f32 0, .float .f32 0, .float .f32 0, .float .f32 0, .float .f32 0, .float .f32 0]) := fun o o' t => Lib.hid (blkL_at ((w.alloc o).alloc o') #[.float .f32 0, .float .f32 0, .float .f32 0, .float .f32 0, .float .f32 0, .float .f32 0] t (by simp))
  have hb2 : w.heap.size ≤ w.heap.size + 2 := by omega
  have HP := Lib.hid h; clear h
  have HN := Lib.hid hn; clear hn
  have HV := Lib.hid hv; clear hv
  unfold mibG at hg
  rw [Bool.and_eq_true] at hg
  have HST := Lib.hid hg.1
  have HG := Lib.hid hg.2
  clear hg
  obtain ⟨fl, hfl⟩ : ∃ v, v = (flV (flowS a l d q tip x y z wi sp p 24)) := ⟨_, rfl⟩
  rw [← hfl] at HG ⊢
  have HFLV := Lib.hid hfl; clear hfl
  go_enter Try.func73, Try.ntmps73
  go_wp2_with fail
  refine (i_balanceOn x y z q tip A L D ca cl cd a l d wi sp p _).mono ?_
  rintro e w3 ⟨p1, p2, rfl, hb1, hc1, b3⟩
  have B3 : Hid (Below w.heap.size w w3) := Lib.hid (below_of (HB3 _ _ _).out (HB3 _ _ _).out.size b3)
  have K0 : Hid (BlkB w3 w.heap.size x y z A L D a l d ca cl cd q tip) := Lib.hid ((HK0 _ _ _).out.below b3)
  have K1 : Hid (BlkL w3 (w.heap.size + 1) [.float .f32 wi, .float .f32 sp, .float .f32 p]) := Lib.hid ((HK1 _ _ _).out.below b3)
  have K2 : Hid (BlkL w3 (w.heap.size + 2) [.float .f32 0, .float .f32 0, .float .f32 0, .float .f32 0, .float .f32 0, .float .f32 0]) := Lib.hid ((HK2 _ _ _).out.below b3)
  have HBB := Lib.hid hb1
  have HCC := Lib.hid hc1
  clear b3 hb1 hc1
  go_wp2_with fail
  refine (i_flowByHalves _ _ _ _ _ _ _ A L D ca cl cd a l d wi sp p _ (HP.out.below B3.out) HN.out HV.out HBB.out HCC.out).mono ?_
  rintro e w4 ⟨rfl, b4⟩
  have B4 : Hid (Below w.heap.size w w4) := Lib.hid (below_of B3.out B3.out.size b4)
  have K0' : Hid (BlkB w4 w.heap.size x y z A L D a l d ca cl cd q tip) := Lib.hid (K0.out.below b4)
  have K1' : Hid (BlkL w4 (w.heap.size + 1) [.float .f32 wi, .float .f32 sp, .float .f32 p]) := Lib.hid (K1.out.below b4)
  have K2' : Hid (BlkL w4 (w.heap.size + 2) [.float .f32 0, .float .f32 0, .float .f32 0, .float .f32 0, .float .f32 0, .float .f32 0]) := Lib.hid (K2.out.below b4)
  clear b4
  rw [HST.out]
  rw [← HFLV.out]
  obtain ⟨k0, k1, k2, k3, k4, k5, k6, k7⟩ := K0'.out.limbs
  have c2 := (K1'.out.2 2 _ rfl).1
  go_wp2_with fail
  refine (i_meet x y z q tip A L D ca cl cd a l d fl p _ (HP.out.below B4.out) HN.out HV.out HG.out).mono ?_
  rintro e w5 ⟨r3, r4, r1, r2, rk, rm, rfl, -, -, h1, h2, hk, hm, b5⟩
  have H1 := Lib.hid h1
  have H2 := Lib.hid h2
  have H3 := Lib.hid hk
  have H4 := Lib.hid hm
  have K5 : Hid (BlkL w5 (w.heap.size + 2) [.float .f32 0, .float .f32 0, .float .f32 0, .float .f32 0, .float .f32 0, .float .f32 0]) := Lib.hid (K2'.out.below b5)
  have B5 : Hid (Below w.heap.size w w5) := Lib.hid (below_of B4.out B4.out.size b5)
  clear b5 h1 h2 hk hm k0 k1 k2 k3 k4 k5 k6 k7 c2
  obtain ⟨z0, f0⟩ := K5.out.2 0 _ rfl
  obtain ⟨z1, f1⟩ := K5.out.2 1 _ rfl
  obtain ⟨z2, f2⟩ := K5.out.2 2 _ rfl
  obtain ⟨z3, f3⟩ := K5.out.2 3 _ rfl
  obtain ⟨z4, f4⟩ := K5.out.2 4 _ rfl
  obtain ⟨z5, f5⟩ := K5.out.2 5 _ rfl
  go_wp2
  refine bodyPost_ret (v := .tuple #[.agg #[.float .f32 r3, .float .f32 r4, .float .f32 r1, .float .f32 r2, .float .f32 rk, .float .f32 rm], .bool true]) (by simp [results, Try.results73, go_sem, z0, z1, z2, z3, z4, z5]) rfl ⟨r3, r4, r1, r2, rk, rm, rfl, H1.out, H2.out, H3.out, H4.out, ?_⟩
  repeat (refine bset ?_ hb2 _ _)
  exact B5.out
end Go.Proofs.Ytigfonnlhiedhaa
