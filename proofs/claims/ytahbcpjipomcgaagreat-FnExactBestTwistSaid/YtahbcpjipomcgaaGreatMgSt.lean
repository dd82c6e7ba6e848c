/- What a station takes: both sides, put together. No statement is proved here. -/
import Derived.Test.YtahbcpjipomcgaaGreatFloI
import Derived.Test.YtahbcpjipomcgaaGreatBalI
namespace Go.Proofs.YtahbcpjipomcgaaGreat
open Go Go.RowKit
def mibG (a l d : List Nat) (q tip x y z wi sp p : Nat) : Bool := (flowS a l d q tip x y z wi sp p 24).isSome && puG a l d z (flV (flowS a l d q tip x y z wi sp p 24)) p
set_option maxHeartbeats 8000000 in
set_option maxRecDepth 100000 in
theorem i_mib_no (x y z q tip : Nat) (A L D : Option Addr) (ca cl cd : Nat) (a l d : List Nat) (wi sp p : Nat) (w : World) (h : Pf w A L D a l d) (hn : Few a l d) (hv : validP a l d = true) (hg : mibG a l d q tip x y z wi sp p = false) :
    Calls Tryz.prog 77 #[.agg #[.float .f32 x, .float .f32 y, .float .f32 z, .slice A a.length ca, .slice L l.length cl, .slice D d.length cd, .float .f32 q, .float .f32 tip], .agg #[.float .f32 wi, .float .f32 sp, .float .f32 p]] w fun e w' => e = .returned (.tuple #[.agg #[.float .f32 0, .float .f32 0, .float .f32 0, .float .f32 0, .float .f32 0, .float .f32 0], .bool false]) ∧ Below w.heap.size w w' := by
  have HB3 : ∀ o1 o2 o3, Hid (Below w.heap.size w (((w.alloc o1).alloc o2).alloc o3)) := fun _ _ _ => Lib.hid ((((Below.refl _ _).alloc (Nat.le_refl _) _).alloc (by simp) _).alloc (by simp; omega) _)
  have HK0 : ∀ t o o', Hid (BlkB (((w.alloc (.cells #[.float .f32 x, .float .f32 y, .float .f32 z, .slice A a.length ca, .slice L l.length cl, .slice D d.length cd, .float .f32 q, .float .f32 tip] t)).alloc o).alloc o') w.heap.size x y z A L D a l d ca cl cd q tip) := fun t o o' => Lib.hid (((blkL_at w #[.float .f32 x, .float .f32 y, .float .f32 z, .slice A a.length ca, .slice L l.length cl, .slice D d.length cd, .float .f32 q, .float .f32 tip] t rfl).alloc o).alloc o')
  have HK1 : ∀ o t o', Hid (BlkL (((w.alloc o).alloc (.cells #[.float .f32 wi, .float .f32 sp, .float .f32 p] t)).alloc o') (w.heap.size + 1) [.float .f32 wi, .float .f32 sp, .float .f32 p]) := fun o t o' => Lib.hid ((blkL_at (w.alloc o) #[.float .f32 wi, .float .f32 sp, .float .f32 p] t (by simp)).alloc o')
  have HK2 : ∀ o o' t, Hid (BlkL (((w.alloc o).alloc o').alloc (.cells #[.float .f32 0, .float .f32 0, .float .f32 0, .float .f32 0, .float .f32 0, .float .f32 0] t)) (w.heap.size + 2) [.float .f32 0, .float .f32 0, .float .f32 0, .float .f32 0, .float .f32 0, .float .f32 0]) := fun o o' t => Lib.hid (blkL_at ((w.alloc o).alloc o') #[.float .f32 0, .float .f32 0, .float .f32 0, .float .f32 0, .float .f32 0, .float .f32 0] t (by simp))
  have hb2 : w.heap.size ≤ w.heap.size + 2 := by omega
  have HP := Lib.hid h; clear h
  have HN := Lib.hid hn; clear hn
  have HV := Lib.hid hv; clear hv
  cases hst : flowS a l d q tip x y z wi sp p 24 with
  | none =>
    have HST : Hid ((flowS a l d q tip x y z wi sp p 24).isSome = false) := Lib.hid (by rw [hst]; rfl)
    clear hst hg
    go_enter Tryz.func77, Tryz.ntmps77
    go_wp2_with fail
    refine (i_balanceOn x y z q tip A L D ca cl cd a l d wi sp p _).mono ?_
    rintro e w3 ⟨p1, p2, rfl, hb1, hc1, b3⟩
    have B3 : Hid (Below w.heap.size w w3) := Lib.hid (below_of (HB3 _ _ _).out (HB3 _ _ _).out.size b3)
    have K0 : Hid (BlkB w3 w.heap.size x y z A L D a l d ca cl cd q tip) := Lib.hid ((HK0 _ _ _).out.below b3)
    have K1 : Hid (BlkL w3 (w.heap.size + 1) [.float .f32 wi, .float .f32 sp, .float .f32 p]) := Lib.hid ((HK1 _ _ _).out.below b3)
    have K2 : Hid (BlkL w3 (w.heap.size + 2) [.float .f32 0, .float .f32 0, .float .f32 0, .float .f32 0, .float .f32 0, .float .f32 0]) := Lib.hid ((HK2 _ _ _).out.below b3)
    have HBB := Lib.hid hb1
    have HCC := Lib.hid hc1
    clear b3 hb1 hc1
    go_wp2_with fail
    refine (i_flowByHalves _ _ _ _ _ _ _ A L D ca cl cd a l d wi sp p _ (HP.out.below B3.out) HN.out HV.out HBB.out HCC.out).mono ?_
    rintro e w4 ⟨rfl, b4⟩
    have B4 : Hid (Below w.heap.size w w4) := Lib.hid (below_of B3.out B3.out.size b4)
    have K0' : Hid (BlkB w4 w.heap.size x y z A L D a l d ca cl cd q tip) := Lib.hid (K0.out.below b4)
    have K1' : Hid (BlkL w4 (w.heap.size + 1) [.float .f32 wi, .float .f32 sp, .float .f32 p]) := Lib.hid (K1.out.below b4)
    have K2' : Hid (BlkL w4 (w.heap.size + 2) [.float .f32 0, .float .f32 0, .float .f32 0, .float .f32 0, .float .f32 0, .float .f32 0]) := Lib.hid (K2.out.below b4)
    clear b4
    rw [HST.out]
    obtain ⟨z0, f0⟩ := K2'.out.2 0 _ rfl
    obtain ⟨z1, f1⟩ := K2'.out.2 1 _ rfl
    obtain ⟨z2, f2⟩ := K2'.out.2 2 _ rfl
    obtain ⟨z3, f3⟩ := K2'.out.2 3 _ rfl
    obtain ⟨z4, f4⟩ := K2'.out.2 4 _ rfl
    obtain ⟨z5, f5⟩ := K2'.out.2 5 _ rfl
    go_wp2
    refine bodyPost_ret (v := .tuple #[.agg #[.float .f32 0, .float .f32 0, .float .f32 0, .float .f32 0, .float .f32 0, .float .f32 0], .bool false]) (by simp [results, Tryz.results77, go_sem, z0, z1, z2, z3, z4, z5]) rfl ⟨rfl, ?_⟩
    repeat (refine bset ?_ hb2 _ _)
    exact B4.out
  | some e =>
    have HST : Hid ((flowS a l d q tip x y z wi sp p 24).isSome = true) := Lib.hid (by rw [hst]; rfl)
    have HG : Hid (puG a l d z (flV (flowS a l d q tip x y z wi sp p 24)) p = false) := Lib.hid (by unfold mibG at hg; rw [HST.out, Bool.true_and] at hg; exact hg)
    clear hst hg
    obtain ⟨fl, hfl⟩ : ∃ v, v = (flV (flowS a l d q tip x y z wi sp p 24)) := ⟨_, rfl⟩
    rw [← hfl] at HG
    have HFLV := Lib.hid hfl; clear hfl
    go_enter Tryz.func77, Tryz.ntmps77
    go_wp2_with fail
    refine (i_balanceOn x y z q tip A L D ca cl cd a l d wi sp p _).mono ?_
    rintro e w3 ⟨p1, p2, rfl, hb1, hc1, b3⟩
    have B3 : Hid (Below w.heap.size w w3) := Lib.hid (below_of (HB3 _ _ _).out (HB3 _ _ _).out.size b3)
    have K0 : Hid (BlkB w3 w.heap.size x y z A L D a l d ca cl cd q tip) := Lib.hid ((HK0 _ _ _).out.below b3)
    have K1 : Hid (BlkL w3 (w.heap.size + 1) [.float .f32 wi, .float .f32 sp, .float .f32 p]) := Lib.hid ((HK1 _ _ _).out.below b3)
    have K2 : Hid (BlkL w3 (w.heap.size + 2) [.float .f32 0, .float .f32 0, .float .f32 0, .float .f32 0, .float .f32 0, .float .f32 0]) := Lib.hid ((HK2 _ _ _).out.below b3)
    have HBB := Lib.hid hb1
    have HCC := Lib.hid hc1
    clear b3 hb1 hc1
    go_wp2_with fail
    refine (i_flowByHalves _ _ _ _ _ _ _ A L D ca cl cd a l d wi sp p _ (HP.out.below B3.out) HN.out HV.out HBB.out HCC.out).mono ?_
    rintro e w4 ⟨rfl, b4⟩
    have B4 : Hid (Below w.heap.size w w4) := Lib.hid (below_of B3.out B3.out.size b4)
    have K0' : Hid (BlkB w4 w.heap.size x y z A L D a l d ca cl cd q tip) := Lib.hid (K0.out.below b4)
    have K1' : Hid (BlkL w4 (w.heap.size + 1) [.float .f32 wi, .float .f32 sp, .float .f32 p]) := Lib.hid (K1.out.below b4)
    have K2' : Hid (BlkL w4 (w.heap.size + 2) [.float .f32 0, .float .f32 0, .float .f32 0, .float .f32 0, .float .f32 0, .float .f32 0]) := Lib.hid (K2.out.below b4)
    clear b4
    rw [HST.out]
    rw [← HFLV.out]
    obtain ⟨k0, k1, k2, k3, k4, k5, k6, k7⟩ := K0'.out.limbs
    have c2 := (K1'.out.2 2 _ rfl).1
    go_wp2_with fail
    refine (i_meet_no x y z q tip A L D ca cl cd a l d fl p _ (HP.out.below B4.out) HN.out HV.out HG.out).mono ?_
    rintro e w5 ⟨rfl, b5⟩
    have K5 : Hid (BlkL w5 (w.heap.size + 2) [.float .f32 0, .float .f32 0, .float .f32 0, .float .f32 0, .float .f32 0, .float .f32 0]) := Lib.hid (K2'.out.below b5)
    have B5 : Hid (Below w.heap.size w w5) := Lib.hid (below_of B4.out B4.out.size b5)
    clear b5 k0 k1 k2 k3 k4 k5 k6 k7 c2
    obtain ⟨z0, f0⟩ := K5.out.2 0 _ rfl
    obtain ⟨z1, f1⟩ := K5.out.2 1 _ rfl
    obtain ⟨z2, f2⟩ := K5.out.2 2 _ rfl
    obtain ⟨z3, f3⟩ := K5.out.2 3 _ rfl
    obtain ⟨z4, f4⟩ := K5.out.2 4 _ rfl
    obtain ⟨z5, f5⟩ := K5.out.2 5 _ rfl
    go_wp2
    refine bodyPost_ret (v := .tuple #[.agg #[.float .f32 0, .float .f32 0, .float .f32 0, .float .f32 0, .float .f32 0, .float .f32 0], .bool false]) (by simp [results, Tryz.results77, go_sem, z0, z1, z2, z3, z4, z5]) rfl ⟨rfl, ?_⟩
    repeat (refine bset ?_ hb2 _ _)
    exact B5.out
set_option maxHeartbeats 8000000 in
set_option maxRecDepth 100000 in
theorem i_mib (x y z q tip : Nat) (A L D : Option Addr) (ca cl cd : Nat) (a l d : List Nat) (wi sp p : Nat) (w : World) (h : Pf w A L D a l d) (hn : Few a l d) (hv : validP a l d = true) (hg : mibG a l d q tip x y z wi sp p = true) :
    Calls Tryz.prog 77 #[.agg #[.float .f32 x, .float .f32 y, .float .f32 z, .slice A a.length ca, .slice L l.length cl, .slice D d.length cd, .float .f32 q, .float .f32 tip], .agg #[.float .f32 wi, .float .f32 sp, .float .f32 p]] w fun e w' => ∃ r3 r4 r1 r2 rk rm, e = .returned (.tuple #[.agg #[.float .f32 r3, .float .f32 r4, .float .f32 r1, .float .f32 r2, .float .f32 rk, .float .f32 rm], .bool true]) ∧ canon .f32 r1 = pusN a l d z (flV (flowS a l d q tip x y z wi sp p 24)) p ∧ canon .f32 r2 = pusT a l d z (flV (flowS a l d q tip x y z wi sp p 24)) p ∧ canon .f32 rk = kB a l d q tip x y z (flV (flowS a l d q tip x y z wi sp p 24)) p ∧ canon .f32 rm = mB a l d q tip x y z (flV (flowS a l d q tip x y z wi sp p 24)) p ∧ Below w.heap.size w w' := by
  have HB3 : ∀ o1 o2 o3, Hid (Below w.heap.size w (((w.alloc o1).alloc o2).alloc o3)) := fun _ _ _ => Lib.hid ((((Below.refl _ _).alloc (Nat.le_refl _) _).alloc (by simp) _).alloc (by simp; omega) _)
  have HK0 : ∀ t o o', Hid (BlkB (((w.alloc (.cells #[.float .f32 x, .float .f32 y, .float .f32 z, .slice A a.length ca, .slice L l.length cl, .slice D d.length cd, .float .f32 q, .float .f32 tip] t)).alloc o).alloc o') w.heap.size x y z A L D a l d ca cl cd q tip) := fun t o o' => Lib.hid (((blkL_at w #[.float .f32 x, .float .f32 y, .float .f32 z, .slice A a.length ca, .slice L l.length cl, .slice D d.length cd, .float .f32 q, .float .f32 tip] t rfl).alloc o).alloc o')
  have HK1 : ∀ o t o', Hid (BlkL (((w.alloc o).alloc (.cells #[.float .f32 wi, .float .f32 sp, .float .f32 p] t)).alloc o') (w.heap.size + 1) [.float .f32 wi, .float .f32 sp, .float .f32 p]) := fun o t o' => Lib.hid ((blkL_at (w.alloc o) #[.float .f32 wi, .float .f32 sp, .float .f32 p] t (by simp)).alloc o')
  have HK2 : ∀ o o' t, Hid (BlkL (((w.alloc o).alloc o').alloc (.cells #[.float .f32 0, .float .f32 0, .float .f32 0, .float .f32 0, .float .f32 0, .float .f32 0] t)) (w.heap.size + 2) [.float .f32 0, .float .f32 0, .float .f32 0, .float .f32 0, .float .f32 0, .float .f32 0]) := fun o o' t => Lib.hid (blkL_at ((w.alloc o).alloc o') #[.float .f32 0, .float .f32 0, .float .f32 0, .float .f32 0, .float .f32 0, .float .f32 0] t (by simp))
  have hb2 : w.heap.size ≤ w.heap.size + 2 := by omega
  have HP := Lib.hid h; clear h
  have HN := Lib.hid hn; clear hn
  have HV := Lib.hid hv; clear hv
  unfold mibG at hg
  rw [Bool.and_eq_true] at hg
  have HST := Lib.hid hg.1
  have HG := Lib.hid hg.2
  clear hg
  obtain ⟨fl, hfl⟩ : ∃ v, v = (flV (flowS a l d q tip x y z wi sp p 24)) := ⟨_, rfl⟩
  rw [← hfl] at HG ⊢
  have HFLV := Lib.hid hfl; clear hfl
  go_enter Tryz.func77, Tryz.ntmps77
  go_wp2_with fail
  refine (i_balanceOn x y z q tip A L D ca cl cd a l d wi sp p _).mono ?_
  rintro e w3 ⟨p1, p2, rfl, hb1, hc1, b3⟩
  have B3 : Hid (Below w.heap.size w w3) := Lib.hid (below_of (HB3 _ _ _).out (HB3 _ _ _).out.size b3)
  have K0 : Hid (BlkB w3 w.heap.size x y z A L D a l d ca cl cd q tip) := Lib.hid ((HK0 _ _ _).out.below b3)
  have K1 : Hid (BlkL w3 (w.heap.size + 1) [.float .f32 wi, .float .f32 sp, .float .f32 p]) := Lib.hid ((HK1 _ _ _).out.below b3)
  have K2 : Hid (BlkL w3 (w.heap.size + 2) [.float .f32 0, .float .f32 0, .float .f32 0, .float .f32 0, .float .f32 0, .float .f32 0]) := Lib.hid ((HK2 _ _ _).out.below b3)
  have HBB := Lib.hid hb1
  have HCC := Lib.hid hc1
  clear b3 hb1 hc1
  go_wp2_with fail
  refine (i_flowByHalves _ _ _ _ _ _ _ A L D ca cl cd a l d wi sp p _ (HP.out.below B3.out) HN.out HV.out HBB.out HCC.out).mono ?_
  rintro e w4 ⟨rfl, b4⟩
  have B4 : Hid (Below w.heap.size w w4) := Lib.hid (below_of B3.out B3.out.size b4)
  have K0' : Hid (BlkB w4 w.heap.size x y z A L D a l d ca cl cd q tip) := Lib.hid (K0.out.below b4)
  have K1' : Hid (BlkL w4 (w.heap.size + 1) [.float .f32 wi, .float .f32 sp, .float .f32 p]) := Lib.hid (K1.out.below b4)
  have K2' : Hid (BlkL w4 (w.heap.size + 2) [.float .f32 0, .float .f32 0, .float .f32 0, .float .f32 0, .float .f32 0, .float .f32 0]) := Lib.hid (K2.out.below b4)
  clear b4
  rw [HST.out]
  rw [← HFLV.out]
  obtain ⟨k0, k1, k2, k3, k4, k5, k6, k7⟩ := K0'.out.limbs
  have c2 := (K1'.out.2 2 _ rfl).1
  go_wp2_with fail
  refine (i_meet x y z q tip A L D ca cl cd a l d fl p _ (HP.out.below B4.out) HN.out HV.out HG.out).mono ?_
  rintro e w5 ⟨r3, r4, r1, r2, rk, rm, rfl, -, -, h1, h2, hk, hm, b5⟩
  have H1 := Lib.hid h1
  have H2 := Lib.hid h2
  have H3 := Lib.hid hk
  have H4 := Lib.hid hm
  have K5 : Hid (BlkL w5 (w.heap.size + 2) [.float .f32 0, .float .f32 0, .float .f32 0, .float .f32 0, .float .f32 0, .float .f32 0]) := Lib.hid (K2'.out.below b5)
  have B5 : Hid (Below w.heap.size w w5) := Lib.hid (below_of B4.out B4.out.size b5)
  clear b5 h1 h2 hk hm k0 k1 k2 k3 k4 k5 k6 k7 c2
  obtain ⟨z0, f0⟩ := K5.out.2 0 _ rfl
  obtain ⟨z1, f1⟩ := K5.out.2 1 _ rfl
  obtain ⟨z2, f2⟩ := K5.out.2 2 _ rfl
  obtain ⟨z3, f3⟩ := K5.out.2 3 _ rfl
  obtain ⟨z4, f4⟩ := K5.out.2 4 _ rfl
  obtain ⟨z5, f5⟩ := K5.out.2 5 _ rfl
  go_wp2
  refine bodyPost_ret (v := .tuple #[.agg #[.float .f32 r3, .float .f32 r4, .float .f32 r1, .float .f32 r2, .float .f32 rk, .float .f32 rm], .bool true]) (by simp [results, Tryz.results77, go_sem, z0, z1, z2, z3, z4, z5]) rfl ⟨r3, r4, r1, r2, rk, rm, rfl, H1.out, H2.out, H3.out, H4.out, ?_⟩
  repeat (refine bset ?_ hb2 _ _)
  exact B5.out
end Go.Proofs.YtahbcpjipomcgaaGreat
namespace Go.Proofs.YtahbcpjipomcgaaGreat
open Go Go.RowKit
def foU (a l d : List Nat) (q tip x y z wi sp p : Nat) : Nat := fop .quo .f32 (canon .f32 wi) (fop .add .f32 (canon .f32 1065353216) (kB a l d q tip x y z (flV (flowS a l d q tip x y z wi sp p 24)) p))
def foV (a l d : List Nat) (q tip x y z wi sp p : Nat) : Nat := fop .quo .f32 (fop .mul .f32 (canon .f32 sp) (canon .f32 x)) (fop .sub .f32 (canon .f32 1065353216) (mB a l d q tip x y z (flV (flowS a l d q tip x y z wi sp p 24)) p))
def foQ (a l d : List Nat) (q tip x y z wi sp p dn : Nat) : Nat := (fun U V => fop .mul .f32 (fop .mul .f32 (fop .mul .f32 (canon .f32 1056964608) (canon .f32 dn)) (fop .add .f32 (fop .mul .f32 U U) (fop .mul .f32 V V))) (canon .f32 y)) (foU a l d q tip x y z wi sp p) (foV a l d q tip x y z wi sp p)
def fo1 (a l d : List Nat) (q tip x y z wi sp p dn : Nat) : Nat := fop .mul .f32 (foQ a l d q tip x y z wi sp p dn) (pusN a l d z (flV (flowS a l d q tip x y z wi sp p 24)) p)
def fo2 (a l d : List Nat) (q tip x y z wi sp p dn : Nat) : Nat := fop .mul .f32 (foQ a l d q tip x y z wi sp p dn) (pusT a l d z (flV (flowS a l d q tip x y z wi sp p 24)) p)
set_option maxHeartbeats 8000000 in
set_option maxRecDepth 100000 in
theorem i_forceOn_no (x y z q tip : Nat) (A L D : Option Addr) (ca cl cd : Nat) (a l d : List Nat) (wi sp p dn : Nat) (w : World) (h : Pf w A L D a l d) (hn : Few a l d) (hv : validP a l d = true) (hg : mibG a l d q tip x y z wi sp p = false) :
    Calls Tryz.prog 45 #[.agg #[.float .f32 x, .float .f32 y, .float .f32 z, .slice A a.length ca, .slice L l.length cl, .slice D d.length cd, .float .f32 q, .float .f32 tip], .agg #[.float .f32 wi, .float .f32 sp, .float .f32 p], .float .f32 dn] w fun e w' => e = .returned (.agg #[.float .f32 0, .float .f32 0, .bool false]) ∧ Below w.heap.size w w' := by
  have HB3 : ∀ o1 o2 o3, Hid (Below w.heap.size w (((w.alloc o1).alloc o2).alloc o3)) := fun _ _ _ => Lib.hid ((((Below.refl _ _).alloc (Nat.le_refl _) _).alloc (by simp) _).alloc (by simp; omega) _)
  have HK0 : ∀ t o o', Hid (BlkB (((w.alloc (.cells #[.float .f32 x, .float .f32 y, .float .f32 z, .slice A a.length ca, .slice L l.length cl, .slice D d.length cd, .float .f32 q, .float .f32 tip] t)).alloc o).alloc o') w.heap.size x y z A L D a l d ca cl cd q tip) := fun t o o' => Lib.hid (((blkL_at w #[.float .f32 x, .float .f32 y, .float .f32 z, .slice A a.length ca, .slice L l.length cl, .slice D d.length cd, .float .f32 q, .float .f32 tip] t rfl).alloc o).alloc o')
  have HK1 : ∀ o t o', Hid (BlkL (((w.alloc o).alloc (.cells #[.float .f32 wi, .float .f32 sp, .float .f32 p] t)).alloc o') (w.heap.size + 1) [.float .f32 wi, .float .f32 sp, .float .f32 p]) := fun o t o' => Lib.hid ((blkL_at (w.alloc o) #[.float .f32 wi, .float .f32 sp, .float .f32 p] t (by simp)).alloc o')
  have HK2 : ∀ o o' t, Hid (BlkL (((w.alloc o).alloc o').alloc (.cells #[.float .f32 0, .float .f32 0, .bool false] t)) (w.heap.size + 2) [.float .f32 0, .float .f32 0, .bool false]) := fun o o' t => Lib.hid (blkL_at ((w.alloc o).alloc o') #[.float .f32 0, .float .f32 0, .bool false] t (by simp))
  have hb2 : w.heap.size ≤ w.heap.size + 2 := by omega
  have HP := Lib.hid h; clear h
  have HN := Lib.hid hn; clear hn
  have HV := Lib.hid hv; clear hv
  have HG := Lib.hid hg; clear hg
  go_enter Tryz.func45, Tryz.ntmps45
  go_wp2_with fail
  refine (i_mib_no x y z q tip A L D ca cl cd a l d wi sp p _ (HP.out.below (HB3 _ _ _).out) HN.out HV.out HG.out).mono ?_
  rintro e w3 ⟨rfl, b3⟩
  have B3 : Hid (Below w.heap.size w w3) := Lib.hid (below_of (HB3 _ _ _).out (HB3 _ _ _).out.size b3)
  have K2 : Hid (BlkL w3 (w.heap.size + 2) [.float .f32 0, .float .f32 0, .bool false]) := Lib.hid ((HK2 _ _ _).out.below b3)
  have K2a := fun o => K2.out.alloc o
  clear b3
  have z0 := fun o => ((K2a o).2 0 _ rfl).1
  have z1 := fun o => ((K2a o).2 1 _ rfl).1
  have z2 := fun o => ((K2a o).2 2 _ rfl).1
  have f0 := fun o => ((K2a o).2 0 _ rfl).2
  have f1 := fun o => ((K2a o).2 1 _ rfl).2
  have f2 := fun o => ((K2a o).2 2 _ rfl).2
  go_wp2
  refine bodyPost_ret (v := .agg #[.float .f32 0, .float .f32 0, .bool false]) (by simp [results, Tryz.results45, go_sem, z0, z1, z2]) rfl ⟨rfl, ?_⟩
  repeat (refine bset ?_ hb2 _ _)
  exact B3.out.alloc B3.out.size _
set_option maxHeartbeats 8000000 in
set_option maxRecDepth 100000 in
theorem i_forceOn (x y z q tip : Nat) (A L D : Option Addr) (ca cl cd : Nat) (a l d : List Nat) (wi sp p dn : Nat) (w : World) (h : Pf w A L D a l d) (hn : Few a l d) (hv : validP a l d = true) (hg : mibG a l d q tip x y z wi sp p = true) :
    Calls Tryz.prog 45 #[.agg #[.float .f32 x, .float .f32 y, .float .f32 z, .slice A a.length ca, .slice L l.length cl, .slice D d.length cd, .float .f32 q, .float .f32 tip], .agg #[.float .f32 wi, .float .f32 sp, .float .f32 p], .float .f32 dn] w fun e w' => ∃ r t, e = .returned (.agg #[.float .f32 r, .float .f32 t, .bool (fin .f32 (fo1 a l d q tip x y z wi sp p dn) && fin .f32 (fo2 a l d q tip x y z wi sp p dn))]) ∧ canon .f32 r = both1 (fo1 a l d q tip x y z wi sp p dn) (fo2 a l d q tip x y z wi sp p dn) ∧ canon .f32 t = both2 (fo1 a l d q tip x y z wi sp p dn) (fo2 a l d q tip x y z wi sp p dn) ∧ Below w.heap.size w w' := by
  have HB3 : ∀ o1 o2 o3, Hid (Below w.heap.size w (((w.alloc o1).alloc o2).alloc o3)) := fun _ _ _ => Lib.hid ((((Below.refl _ _).alloc (Nat.le_refl _) _).alloc (by simp) _).alloc (by simp; omega) _)
  have HK0 : ∀ t o o', Hid (BlkB (((w.alloc (.cells #[.float .f32 x, .float .f32 y, .float .f32 z, .slice A a.length ca, .slice L l.length cl, .slice D d.length cd, .float .f32 q, .float .f32 tip] t)).alloc o).alloc o') w.heap.size x y z A L D a l d ca cl cd q tip) := fun t o o' => Lib.hid (((blkL_at w #[.float .f32 x, .float .f32 y, .float .f32 z, .slice A a.length ca, .slice L l.length cl, .slice D d.length cd, .float .f32 q, .float .f32 tip] t rfl).alloc o).alloc o')
  have HK1 : ∀ o t o', Hid (BlkL (((w.alloc o).alloc (.cells #[.float .f32 wi, .float .f32 sp, .float .f32 p] t)).alloc o') (w.heap.size + 1) [.float .f32 wi, .float .f32 sp, .float .f32 p]) := fun o t o' => Lib.hid ((blkL_at (w.alloc o) #[.float .f32 wi, .float .f32 sp, .float .f32 p] t (by simp)).alloc o')
  have HK2 : ∀ o o' t, Hid (BlkL (((w.alloc o).alloc o').alloc (.cells #[.float .f32 0, .float .f32 0, .bool false] t)) (w.heap.size + 2) [.float .f32 0, .float .f32 0, .bool false]) := fun o o' t => Lib.hid (blkL_at ((w.alloc o).alloc o') #[.float .f32 0, .float .f32 0, .bool false] t (by simp))
  have hb2 : w.heap.size ≤ w.heap.size + 2 := by omega
  have HP := Lib.hid h; clear h
  have HN := Lib.hid hn; clear hn
  have HV := Lib.hid hv; clear hv
  have HG := Lib.hid hg; clear hg
  go_enter Tryz.func45, Tryz.ntmps45
  go_wp2_with fail
  refine (i_mib x y z q tip A L D ca cl cd a l d wi sp p _ (HP.out.below (HB3 _ _ _).out) HN.out HV.out HG.out).mono ?_
  rintro e w3 ⟨r3, r4, r1, r2, rk, rm, rfl, h1, h2, hk, hm, b3⟩
  have H1 := Lib.hid h1
  have H2 := Lib.hid h2
  have H3 := Lib.hid hk
  have H4 := Lib.hid hm
  have B3 : Hid (Below w.heap.size w w3) := Lib.hid (below_of (HB3 _ _ _).out (HB3 _ _ _).out.size b3)
  have K0 : Hid (BlkB w3 w.heap.size x y z A L D a l d ca cl cd q tip) := Lib.hid ((HK0 _ _ _).out.below b3)
  have K1 : Hid (BlkL w3 (w.heap.size + 1) [.float .f32 wi, .float .f32 sp, .float .f32 p]) := Lib.hid ((HK1 _ _ _).out.below b3)
  have K2 : Hid (BlkL w3 (w.heap.size + 2) [.float .f32 0, .float .f32 0, .bool false]) := Lib.hid ((HK2 _ _ _).out.below b3)
  have K0a : Hid (BlkB (w3.alloc (.cells #[.float .f32 r3, .float .f32 r4, .float .f32 r1, .float .f32 r2, .float .f32 rk, .float .f32 rm] 99)) w.heap.size x y z A L D a l d ca cl cd q tip) := Lib.hid (K0.out.alloc _)
  have K1a : Hid (BlkL (w3.alloc (.cells #[.float .f32 r3, .float .f32 r4, .float .f32 r1, .float .f32 r2, .float .f32 rk, .float .f32 rm] 99)) (w.heap.size + 1) [.float .f32 wi, .float .f32 sp, .float .f32 p]) := Lib.hid (K1.out.alloc _)
  have K2a : Hid (BlkL (w3.alloc (.cells #[.float .f32 r3, .float .f32 r4, .float .f32 r1, .float .f32 r2, .float .f32 rk, .float .f32 rm] 99)) (w.heap.size + 2) [.float .f32 0, .float .f32 0, .bool false]) := Lib.hid (K2.out.alloc _)
  have HY : Hid (BlkL (w3.alloc (.cells #[.float .f32 r3, .float .f32 r4, .float .f32 r1, .float .f32 r2, .float .f32 rk, .float .f32 rm] 99)) w3.heap.size [.float .f32 r3, .float .f32 r4, .float .f32 r1, .float .f32 r2, .float .f32 rk, .float .f32 rm]) := Lib.hid (blkL_at w3 #[.float .f32 r3, .float .f32 r4, .float .f32 r1, .float .f32 r2, .float .f32 rk, .float .f32 rm] 99 rfl)
  have BY : Hid (Below w.heap.size w (w3.alloc (.cells #[.float .f32 r3, .float .f32 r4, .float .f32 r1, .float .f32 r2, .float .f32 rk, .float .f32 rm] 99))) := Lib.hid (B3.out.alloc B3.out.size _)
  clear b3 h1 h2 hk hm
  obtain ⟨k0, k1, k2, k3, k4, k5, k6, k7⟩ := K0a.out.limbs
  have c0 := (K1a.out.2 0 _ rfl).1
  have c1 := (K1a.out.2 1 _ rfl).1
  have y2 := (HY.out.2 2 _ rfl).1
  have y3 := (HY.out.2 3 _ rfl).1
  have y4 := (HY.out.2 4 _ rfl).1
  have y5 := (HY.out.2 5 _ rfl).1
  obtain ⟨U, hU⟩ : ∃ U, U = (foU a l d q tip x y z wi sp p) := ⟨_, rfl⟩
  obtain ⟨V, hV⟩ : ∃ V, V = (foV a l d q tip x y z wi sp p) := ⟨_, rfl⟩
  have HQ : Hid (foQ a l d q tip x y z wi sp p dn = fop .mul .f32 (fop .mul .f32 (fop .mul .f32 (canon .f32 1056964608) (canon .f32 dn)) (fop .add .f32 (fop .mul .f32 U U) (fop .mul .f32 V V))) (canon .f32 y)) := Lib.hid (by rw [hU, hV]; rfl)
  have HU : Hid (∀ W1 W2, canon .f32 (fopV .quo .f32 wi (fopV .add .f32 1065353216 rk W1) W2) = U) := Lib.hid (fun W1 W2 => by rw [hU]; exact canonF rfl (canonF rfl H3.out))
  have HVV : Hid (∀ W1 W2 W3, canon .f32 (fopV .quo .f32 (fopV .mul .f32 sp x W1) (fopV .sub .f32 1065353216 rm W2) W3) = V) := Lib.hid (fun W1 W2 W3 => by rw [hV]; exact canonF (canonF rfl rfl) (canonF rfl H4.out))
  clear hU hV
  go_wp2_with fail
  have hu := HU.out (w3.alloc (.cells #[.float .f32 r3, .float .f32 r4, .float .f32 r1, .float .f32 r2, .float .f32 rk, .float .f32 rm] 99)) ((w3.alloc (.cells #[.float .f32 r3, .float .f32 r4, .float .f32 r1, .float .f32 r2, .float .f32 rk, .float .f32 rm] 99)).drewN (fopN .add .f32 1065353216 rk))
  have hv := HVV.out ((w3.alloc (.cells #[.float .f32 r3, .float .f32 r4, .float .f32 r1, .float .f32 r2, .float .f32 rk, .float .f32 rm] 99)).drewN ((fopN .add .f32 1065353216 rk) + (fopN .quo .f32 wi (fopV .add .f32 1065353216 rk (w3.alloc (.cells #[.float .f32 r3, .float .f32 r4, .float .f32 r1, .float .f32 r2, .float .f32 rk, .float .f32 rm] 99)))))) ((w3.alloc (.cells #[.float .f32 r3, .float .f32 r4, .float .f32 r1, .float .f32 r2, .float .f32 rk, .float .f32 rm] 99)).drewN ((fopN .add .f32 1065353216 rk) + (fopN .quo .f32 wi (fopV .add .f32 1065353216 rk (w3.alloc (.cells #[.float .f32 r3, .float .f32 r4, .float .f32 r1, .float .f32 r2, .float .f32 rk, .float .f32 rm] 99)))) + (fopN .mul .f32 sp x))) ((w3.alloc (.cells #[.float .f32 r3, .float .f32 r4, .float .f32 r1, .float .f32 r2, .float .f32 rk, .float .f32 rm] 99)).drewN ((fopN .add .f32 1065353216 rk) + (fopN .quo .f32 wi (fopV .add .f32 1065353216 rk (w3.alloc (.cells #[.float .f32 r3, .float .f32 r4, .float .f32 r1, .float .f32 r2, .float .f32 rk, .float .f32 rm] 99)))) + (fopN .mul .f32 sp x) + (fopN .sub .f32 1065353216 rm)))
  generalize fopV .quo .f32 (fopV .mul .f32 sp x ((w3.alloc (.cells #[.float .f32 r3, .float .f32 r4, .float .f32 r1, .float .f32 r2, .float .f32 rk, .float .f32 rm] 99)).drewN ((fopN .add .f32 1065353216 rk) + (fopN .quo .f32 wi (fopV .add .f32 1065353216 rk (w3.alloc (.cells #[.float .f32 r3, .float .f32 r4, .float .f32 r1, .float .f32 r2, .float .f32 rk, .float .f32 rm] 99))))))) (fopV .sub .f32 1065353216 rm ((w3.alloc (.cells #[.float .f32 r3, .float .f32 r4, .float .f32 r1, .float .f32 r2, .float .f32 rk, .float .f32 rm] 99)).drewN ((fopN .add .f32 1065353216 rk) + (fopN .quo .f32 wi (fopV .add .f32 1065353216 rk (w3.alloc (.cells #[.float .f32 r3, .float .f32 r4, .float .f32 r1, .float .f32 r2, .float .f32 rk, .float .f32 rm] 99)))) + (fopN .mul .f32 sp x)))) ((w3.alloc (.cells #[.float .f32 r3, .float .f32 r4, .float .f32 r1, .float .f32 r2, .float .f32 rk, .float .f32 rm] 99)).drewN ((fopN .add .f32 1065353216 rk) + (fopN .quo .f32 wi (fopV .add .f32 1065353216 rk (w3.alloc (.cells #[.float .f32 r3, .float .f32 r4, .float .f32 r1, .float .f32 r2, .float .f32 rk, .float .f32 rm] 99)))) + (fopN .mul .f32 sp x) + (fopN .sub .f32 1065353216 rm))) = rv at hv ⊢
  generalize fopV .quo .f32 wi (fopV .add .f32 1065353216 rk (w3.alloc (.cells #[.float .f32 r3, .float .f32 r4, .float .f32 r1, .float .f32 r2, .float .f32 rk, .float .f32 rm] 99))) ((w3.alloc (.cells #[.float .f32 r3, .float .f32 r4, .float .f32 r1, .float .f32 r2, .float .f32 rk, .float .f32 rm] 99)).drewN (fopN .add .f32 1065353216 rk)) = ru at hu ⊢
  have hst : ∀ m, ∃ nn, { ((w3.alloc (.cells #[.float .f32 r3, .float .f32 r4, .float .f32 r1, .float .f32 r2, .float .f32 rk, .float .f32 rm] 99)).drewN m) with drawn := ((w3.alloc (.cells #[.float .f32 r3, .float .f32 r4, .float .f32 r1, .float .f32 r2, .float .f32 rk, .float .f32 rm] 99)).drewN m).drawn + 1 } = (w3.alloc (.cells #[.float .f32 r3, .float .f32 r4, .float .f32 r1, .float .f32 r2, .float .f32 rk, .float .f32 rm] 99)).drewN nn := fun m => ⟨m + 1, rfl⟩
  have hdd : ∀ nn j, ∃ mm, ((w3.alloc (.cells #[.float .f32 r3, .float .f32 r4, .float .f32 r1, .float .f32 r2, .float .f32 rk, .float .f32 rm] 99)).drewN nn).drewN j = (w3.alloc (.cells #[.float .f32 r3, .float .f32 r4, .float .f32 r1, .float .f32 r2, .float .f32 rk, .float .f32 rm] 99)).drewN mm := fun nn j => ⟨nn + j, World.drewN_drewN ..⟩
  refine wp_region_inv (fun q0 v => match q0 with
    | 0 => v = .float .f32 dn
    | 1 => ∃ r, v = .float .f32 r ∧ canon .f32 r = fop .mul .f32 (canon .f32 1056964608) (canon .f32 dn)
    | 2 => v = .float .f32 ru
    | 3 => v = .float .f32 ru
    | 4 => ∃ r, v = .float .f32 r ∧ canon .f32 r = fop .mul .f32 U U
    | 5 => v = .float .f32 rv
    | 6 => v = .float .f32 rv
    | 7 => ∃ r, v = .float .f32 r ∧ canon .f32 r = fop .mul .f32 V V
    | 8 => ∃ r, v = .float .f32 r ∧ canon .f32 r = fop .add .f32 (fop .mul .f32 U U) (fop .mul .f32 V V)
    | 9 => ∃ r, v = .float .f32 r ∧ canon .f32 r = fop .mul .f32 (fop .mul .f32 (canon .f32 1056964608) (canon .f32 dn)) (fop .add .f32 (fop .mul .f32 U U) (fop .mul .f32 V V))
    | 10 => v = .pointer (some ⟨w.heap.size, 0, none⟩)
    | 11 => v = .pointer (some ⟨w.heap.size, 1, none⟩)
    | 12 => v = .float .f32 y
    | 13 => ∃ r, v = .float .f32 r ∧ canon .f32 r = fop .mul .f32 (fop .mul .f32 (fop .mul .f32 (canon .f32 1056964608) (canon .f32 dn)) (fop .add .f32 (fop .mul .f32 U U) (fop .mul .f32 V V))) (canon .f32 y)
    | 14 => ∃ r, v = .float .f32 r ∧ canon .f32 r = fop .mul .f32 (fop .mul .f32 (fop .mul .f32 (canon .f32 1056964608) (canon .f32 dn)) (fop .add .f32 (fop .mul .f32 U U) (fop .mul .f32 V V))) (canon .f32 y)
    | _ => False) (fun _ ww => ∃ nn, ww = (w3.alloc (.cells #[.float .f32 r3, .float .f32 r4, .float .f32 r1, .float .f32 r2, .float .f32 rk, .float .f32 rm] 99)).drewN nn) (by kernel_rfl) (by kernel_rfl) (hst _) ?hop ?hend
  case hop =>
    intro q o hq listed act w3 hI hall
    obtain ⟨nn, rfl⟩ := hI.cls
    rcases q with _ | _ | _ | _ | _ | _ | _ | _ | _ | _ | _ | _ | _ | _ | _ | q
    · simp at hq; subst hq
      have g2 : act.tmps[2]?.getD undef = .float .f32 dn := hI.kept 2 (by kernel_rfl)
      clear hI hall
      unfold Oper.wp
      go_simp
      exact ⟨_, rfl, rfl, ⟨_, rfl⟩⟩
    · simp at hq; subst hq
      have g39 : act.tmps[39]?.getD undef = .float .f32 dn := hI.has 0 39 rfl (hall ⟨0, .data⟩ (by simp) rfl)
      clear hI hall
      unfold Oper.wp
      go_simp
      exact ⟨_, rfl, ⟨_, rfl, canonF rfl rfl⟩, by first | exact ⟨_, rfl⟩ | exact hdd _ _⟩
    · simp at hq; subst hq
      have g9 : act.tmps[9]?.getD undef = .float .f32 ru := hI.kept 9 (by kernel_rfl)
      clear hI hall
      unfold Oper.wp
      go_simp
      exact ⟨_, rfl, rfl, ⟨_, rfl⟩⟩
    · simp at hq; subst hq
      have g9 : act.tmps[9]?.getD undef = .float .f32 ru := hI.kept 9 (by kernel_rfl)
      clear hI hall
      unfold Oper.wp
      go_simp
      exact ⟨_, rfl, rfl, ⟨_, rfl⟩⟩
    · simp at hq; subst hq
      have g41 : act.tmps[41]?.getD undef = .float .f32 ru := hI.has 2 41 rfl (hall ⟨2, .data⟩ (by simp) rfl)
      have g42 : act.tmps[42]?.getD undef = .float .f32 ru := hI.has 3 42 rfl (hall ⟨3, .data⟩ (by simp) rfl)
      clear hI hall
      unfold Oper.wp
      go_simp
      refine (i_mulNumbers _ _ _).mono ?_
      rintro e w4 ⟨rfl, rfl⟩
      exact ⟨_, rfl, ⟨_, rfl, canonF hu hu⟩, by first | exact ⟨_, rfl⟩ | exact hdd _ _⟩
    · simp at hq; subst hq
      have g10 : act.tmps[10]?.getD undef = .float .f32 rv := hI.kept 10 (by kernel_rfl)
      clear hI hall
      unfold Oper.wp
      go_simp
      exact ⟨_, rfl, rfl, ⟨_, rfl⟩⟩
    · simp at hq; subst hq
      have g10 : act.tmps[10]?.getD undef = .float .f32 rv := hI.kept 10 (by kernel_rfl)
      clear hI hall
      unfold Oper.wp
      go_simp
      exact ⟨_, rfl, rfl, ⟨_, rfl⟩⟩
    · simp at hq; subst hq
      have g44 : act.tmps[44]?.getD undef = .float .f32 rv := hI.has 5 44 rfl (hall ⟨5, .data⟩ (by simp) rfl)
      have g45 : act.tmps[45]?.getD undef = .float .f32 rv := hI.has 6 45 rfl (hall ⟨6, .data⟩ (by simp) rfl)
      clear hI hall
      unfold Oper.wp
      go_simp
      refine (i_mulNumbers _ _ _).mono ?_
      rintro e w4 ⟨rfl, rfl⟩
      exact ⟨_, rfl, ⟨_, rfl, canonF hv hv⟩, by first | exact ⟨_, rfl⟩ | exact hdd _ _⟩
    · simp at hq; subst hq
      obtain ⟨r4, g43, h4a⟩ := hI.has 4 43 rfl (hall ⟨4, .data⟩ (by simp) rfl)
      obtain ⟨r7, g46, h7a⟩ := hI.has 7 46 rfl (hall ⟨7, .data⟩ (by simp) rfl)
      clear hI hall
      unfold Oper.wp
      go_simp
      exact ⟨_, rfl, ⟨_, rfl, canonF h4a h7a⟩, by first | exact ⟨_, rfl⟩ | exact hdd _ _⟩
    · simp at hq; subst hq
      obtain ⟨r1, g40, h1a⟩ := hI.has 1 40 rfl (hall ⟨1, .data⟩ (by simp) rfl)
      obtain ⟨r8, g47, h8a⟩ := hI.has 8 47 rfl (hall ⟨8, .data⟩ (by simp) rfl)
      clear hI hall
      unfold Oper.wp
      go_simp
      exact ⟨_, rfl, ⟨_, rfl, canonF h1a h8a⟩, by first | exact ⟨_, rfl⟩ | exact hdd _ _⟩
    · simp at hq; subst hq
      have g3 : act.tmps[3]?.getD undef = .pointer (some ⟨w.heap.size, 0, none⟩) := hI.kept 3 (by kernel_rfl)
      clear hI hall
      unfold Oper.wp
      go_simp
      exact ⟨_, rfl, rfl, ⟨_, rfl⟩⟩
    · simp at hq; subst hq
      have g49 : act.tmps[49]?.getD undef = .pointer (some ⟨w.heap.size, 0, none⟩) := hI.has 10 49 rfl (hall ⟨10, .data⟩ (by simp) rfl)
      clear hI hall
      unfold Oper.wp
      go_simp
      exact ⟨_, rfl, rfl, ⟨_, rfl⟩⟩
    · simp at hq; subst hq
      have g50 : act.tmps[50]?.getD undef = .pointer (some ⟨w.heap.size, 1, none⟩) := hI.has 11 50 rfl (hall ⟨11, .data⟩ (by simp) rfl)
      clear hI hall
      unfold Oper.wp
      go_simp
      exact ⟨_, rfl, rfl, ⟨_, rfl⟩⟩
    · simp at hq; subst hq
      obtain ⟨r9, g48, h9a⟩ := hI.has 9 48 rfl (hall ⟨9, .data⟩ (by simp) rfl)
      have g51 : act.tmps[51]?.getD undef = .float .f32 y := hI.has 12 51 rfl (hall ⟨12, .data⟩ (by simp) rfl)
      clear hI hall
      unfold Oper.wp
      go_simp
      exact ⟨_, rfl, ⟨_, rfl, canonF h9a rfl⟩, by first | exact ⟨_, rfl⟩ | exact hdd _ _⟩
    · simp at hq; subst hq
      obtain ⟨r13, g52, h13a⟩ := hI.has 13 52 rfl (hall ⟨13, .data⟩ (by simp) rfl)
      clear hI hall
      unfold Oper.wp
      go_simp
      exact ⟨_, rfl, ⟨_, rfl, h13a⟩, ⟨_, rfl⟩⟩
    · simp at hq
  case hend =>
    intro listed act w3 hI hall
    obtain ⟨nn, rfl⟩ := hI.cls
    obtain ⟨rq, g11, hrq⟩ := hI.has 14 11 rfl (hall 14 (by decide))
    have g7 : act.tmps[7]?.getD undef = .pointer (some ⟨w3.heap.size, 0, none⟩) := hI.kept 7 (by kernel_rfl)
    have g6 : act.tmps[6]?.getD undef = .pointer (some ⟨w.heap.size + 2, 0, none⟩) := hI.kept 6 (by kernel_rfl)
    have hd := hI.defers
    have hsz : act.tmps.size = 70 := hI.size.trans (by kernel_rfl)
    have g7' : act.tmps[7]'(by omega) = .pointer (some ⟨w3.heap.size, 0, none⟩) := by rw [← g7, Array.getElem?_eq_getElem (by omega)]; rfl
    have g6' : act.tmps[6]'(by omega) = .pointer (some ⟨w.heap.size + 2, 0, none⟩) := by rw [← g6, Array.getElem?_eq_getElem (by omega)]; rfl
    have g11' : act.tmps[11]'(by omega) = .float .f32 rq := by rw [← g11, Array.getElem?_eq_getElem (by omega)]; rfl
    clear hI hall
    have z0 := (K2a.out.2 0 _ rfl).1
    have z1 := (K2a.out.2 1 _ rfl).1
    have z2 := (K2a.out.2 2 _ rfl).1
    have f0 := (K2a.out.2 0 _ rfl).2
    have f1 := (K2a.out.2 1 _ rfl).2
    have f2 := (K2a.out.2 2 _ rfl).2
    go_wp2_with fail
    refine (i_bothFinite _ _ (fo1 a l d q tip x y z wi sp p dn) (fo2 a l d q tip x y z wi sp p dn) _ (canonF (hrq.trans HQ.out.symm) H1.out) (canonF (hrq.trans HQ.out.symm) H2.out)).mono ?_
    rintro e w' ⟨ra, rb, mb, rfl, ha, hb, rfl⟩
    have QA := Lib.hid ha
    have QB := Lib.hid hb
    clear ha hb
    go_wp2
    refine bodyPost_ret (v := .agg #[.float .f32 ra, .float .f32 rb, .bool (fin .f32 (fo1 a l d q tip x y z wi sp p dn) && fin .f32 (fo2 a l d q tip x y z wi sp p dn))]) (by simp [results, Tryz.results45, g6, z0, z1, z2, go_sem]) (by first | rfl | exact hd) ⟨ra, rb, rfl, QA.out, QB.out, ?_⟩
    repeat (refine bset ?_ hb2 _ _)
    first | exact below_draws BY.out _ | exact below_draws (below_draws BY.out _) _ | exact below_draws (below_draws (below_draws BY.out _) _) _
end Go.Proofs.YtahbcpjipomcgaaGreat
namespace Go.Proofs.YtahbcpjipomcgaaGreat
open Go Go.RowKit
def canB (a l d s : List Nat) (n : Nat) (c : Int) (hub tip : Nat) (i : Int) (wi sp p : Nat) : Bool := statR a l d s n c hub tip i && (couB wi sp p && fin .f32 (angZ (twi s i.toNat) 981668463 p))
theorem couB_fin {wi sp p : Nat} (h : couB wi sp p = true) : fin .f32 p = true := by
  unfold couB at h
  rw [Bool.and_eq_true, Bool.and_eq_true] at h
  exact h.2.2
theorem bal_can_no {a l d s : List Nat} {n : Nat} {c : Int} {hub tip : Nat} {i : Int} {f wi sp p : Nat} (h : canB a l d s n c hub tip i wi sp p = false) : balO a l d s n c hub tip i f wi sp p = false ∧ balV a l d s n c hub tip i f wi sp p = 0 := by
  cases hs : statR a l d s n c hub tip i
  · have e : balC a l d s n c hub tip i f wi sp p = false := by unfold balC; rw [hs]; rfl
    exact ⟨by unfold balO; rw [e]; rfl, by unfold balV; rw [e]; rfl⟩
  · obtain ⟨k, rfl, hk, hv⟩ := statR_at hs
    have hr := rotAt hv hk
    cases hc : couB wi sp p
    · have e : balC a l d s n c hub tip k f wi sp p = false := by unfold balC; rw [hc]; simp
      exact ⟨by unfold balO; rw [e]; rfl, by unfold balV; rw [e]; rfl⟩
    · cases hf : flowB f
      · have e : balC a l d s n c hub tip k f wi sp p = false := by unfold balC; rw [hf]; simp
        exact ⟨by unfold balO; rw [e]; rfl, by unfold balV; rw [e]; rfl⟩
      · unfold canB at h
        rw [hs, hc, Bool.true_and, Bool.true_and, show ((k : Int).toNat) = k from rfl, ang_flow bd_c1 (flow_bd hf) hr.twi (couB_fin hc)] at h
        have g := puG_a (a := a) (l := l) (d := d) h
        have e : balC a l d s n c hub tip k f wi sp p = true := by unfold balC; rw [hs, hf, hc]; rfl
        refine ⟨?_, ?_⟩
        · unfold balO balG; rw [show ((k : Int).toNat) = k from rfl, g, e]; rfl
        · unfold balV balR; rw [show ((k : Int).toNat) = k from rfl, g, e]; rfl
theorem bal_flow_no {a l d s : List Nat} {n : Nat} {c : Int} {hub tip : Nat} {i : Int} {f wi sp p : Nat} (h : flowB f = false) : balO a l d s n c hub tip i f wi sp p = false ∧ balV a l d s n c hub tip i f wi sp p = 0 := by
  have e : balC a l d s n c hub tip i f wi sp p = false := by unfold balC; rw [h]; simp
  exact ⟨by unfold balO; rw [e]; rfl, by unfold balV; rw [e]; rfl⟩
theorem bal_yes {a l d s : List Nat} {n : Nat} {c : Int} {hub tip : Nat} {k : Nat} {f wi sp p : Nat} (hc : canB a l d s n c hub tip k wi sp p = true) (hf : flowB f = true) :
    fin .f32 (angZ (twi s k) f p) = true ∧ balO a l d s n c hub tip k f wi sp p = fin .f32 (balZ a l d (floatOfInt .f32 c) tip (rad s k) (chd s k) (twi s k) f wi sp p) ∧ balV a l d s n c hub tip k f wi sp p = onlyN (balZ a l d (floatOfInt .f32 c) tip (rad s k) (chd s k) (twi s k) f wi sp p) := by
  unfold canB at hc
  rw [Bool.and_eq_true, Bool.and_eq_true, show ((k : Int).toNat) = k from rfl] at hc
  obtain ⟨hs, hco, ha⟩ := hc
  obtain ⟨k', e0, hk, hv⟩ := statR_at hs
  obtain rfl : k = k' := by omega
  have hr := rotAt hv hk
  rw [ang_flow bd_c1 (flow_bd hf) hr.twi (couB_fin hco)] at ha
  have e : balC a l d s n c hub tip k f wi sp p = true := by unfold balC; rw [hs, hf, hco]; rfl
  refine ⟨ha, ?_, ?_⟩
  · unfold balO; rw [show ((k : Int).toNat) = k from rfl, balG_ang ha, e]; rfl
  · unfold balV; rw [show ((k : Int).toNat) = k from rfl, balR_ang ha, e]; rfl
set_option maxHeartbeats 4000000 in
set_option maxRecDepth 100000 in
theorem s_l03Slow (A L D S : Option Addr) (ca cl cd n cs : Nat) (c : Int) (hub tip : Nat) (a l d s : List Nat) (k B f p : Nat) (w : World) (h : Rt w A L D S a l d s) (hs : s.length = n * 3) (hkn : k < n) (hn2 : n ≤ 1048576) (hk : Blk7 w B A L D S a l d ca cl cd n cs c hub tip) (hr : RotAt s c hub tip k) (hv : validP a l d = true) (ha : fin .f32 (angZ (twi s k) f p) = true) :
    Calls Tryz.prog 93 #[.pointer (some ⟨B, 0, none⟩), .int .i64 k, .float .f32 f, .float .f32 p] w fun e w' => ∃ rk rm r t, e = .returned (.tuple #[.float .f32 rk, .float .f32 rm, .float .f32 r, .float .f32 t]) ∧ canon .f32 rk = kB a l d (floatOfInt .f32 c) tip (rad s k) (chd s k) (twi s k) f p ∧ canon .f32 rm = mB a l d (floatOfInt .f32 c) tip (rad s k) (chd s k) (twi s k) f p ∧ canon .f32 r = pusN a l d (twi s k) f p ∧ canon .f32 t = pusT a l d (twi s k) f p ∧ Below w.heap.size w w' := by
  have HR := Lib.hid h; clear h
  have HK := Lib.hid hk; clear hk
  have HRA := Lib.hid hr; clear hr
  have HV := Lib.hid hv; clear hv
  have HA := Lib.hid ha; clear ha
  have RD : ∀ m, Hid (Rt (w.drewN m) A L D S a l d s) := fun _ => HR
  have KD : ∀ m, Hid (Blk7 (w.drewN m) B A L D S a l d ca cl cd n cs c hub tip) := fun _ => HK
  have WD : ∀ m, Hid (Below w.heap.size w (w.drewN m)) := fun _ => Lib.hid (below_draws (Below.refl _ _) _)
  go_enter Tryz.func93, Tryz.ntmps93
  go_wp2_with fail
  refine (s_l03Pushes A L D S ca cl cd n cs c hub tip a l d s k B f p _ HR.out hs hkn HK.out HV.out HA.out).mono ?_
  rintro e w' ⟨r1, t1, m1, rfl, h1, h2, rfl⟩
  have H1 := Lib.hid h1
  have H2 := Lib.hid h2
  clear h1 h2
  go_wp2_with fail
  refine (s_l01Sine _ _).mono ?_
  rintro e w' ⟨r3, m3, rfl, c3, rfl⟩
  have C3 : Hid (canon .f32 r3 = sinC f) := Lib.hid c3
  clear c3
  go_wp2_with fail
  refine (s_l01Sine _ _).mono ?_
  rintro e w' ⟨r4, m4, rfl, c4, rfl⟩
  have C4 : Hid (canon .f32 r4 = cosC f) := Lib.hid (by rw [c4, canonF rfl rfl]; rfl)
  clear c4
  go_wp2_with fail
  refine (s_l03Tip A L D S ca cl cd n cs c hub tip a l d s k B _ _ (RD _).out.2 hs hkn hn2 (KD _).out HRA.out).mono ?_
  rintro e w1 ⟨rt, rfl, ht, b1⟩
  have T1 : Hid (canon .f32 rt = tipB (floatOfInt .f32 c) tip (rad s k) (sinC f)) := Lib.hid (by rw [ht, C3.out]; rfl)
  have B1 : Hid (Below w.heap.size w w1) := Lib.hid (below_of (WD _).out (WD _).out.size b1)
  have K1 : Hid (Blk7 w1 B A L D S a l d ca cl cd n cs c hub tip) := Lib.hid ((KD _).out.below b1)
  have R1 : Hid (Rt w1 A L D S a l d s) := Lib.hid ((RD _).out.below b1)
  clear ht b1
  go_wp2_with fail
  refine (s_l03Solidity A L D S ca cl cd n cs c hub tip a l d s k B _ R1.out.2 hs hkn hn2 K1.out HRA.out).mono ?_
  rintro e w2 ⟨rs, rfl, hsl, b2⟩
  have S1 : Hid (canon .f32 rs = solB (floatOfInt .f32 c) (rad s k) (chd s k)) := Lib.hid hsl
  have B2 : Hid (Below w.heap.size w w2) := Lib.hid (below_of B1.out B1.out.size b2)
  clear hsl b2
  go_wp2
  have E1 : ∀ {W1 W2 W3 W4 W5 : World}, canon .f32 (fopV .quo .f32 (fopV .mul .f32 rs r1 W1) (fopV .mul .f32 (fopV .mul .f32 (fopV .mul .f32 1082130432 rt W2) r3 W3) r3 W4) W5) = kB a l d (floatOfInt .f32 c) tip (rad s k) (chd s k) (twi s k) f p := canonF (canonF S1.out H1.out) (canonF (canonF (canonF rfl T1.out) C3.out) C3.out)
  have E2 : ∀ {W1 W2 W3 W4 W5 : World}, canon .f32 (fopV .quo .f32 (fopV .mul .f32 rs t1 W1) (fopV .mul .f32 (fopV .mul .f32 (fopV .mul .f32 1082130432 rt W2) r3 W3) r4 W4) W5) = mB a l d (floatOfInt .f32 c) tip (rad s k) (chd s k) (twi s k) f p := canonF (canonF S1.out H2.out) (canonF (canonF (canonF rfl T1.out) C3.out) C4.out)
  refine bodyPost_ret (v := .tuple #[.float .f32 _, .float .f32 _, .float .f32 r1, .float .f32 t1]) (by simp [results, Tryz.results93, go_sem]; exact ⟨rfl, rfl⟩) rfl ?_
  exact ⟨_, _, _, _, rfl, E1, E2, H1.out, H2.out, by first | exact B2.out | exact below_draws (B2.out) _ | exact below_draws (below_draws (B2.out) _) _ | exact below_draws (below_draws (below_draws (B2.out) _) _) _ | exact below_draws (below_draws (below_draws (below_draws (B2.out) _) _) _) _ | exact below_draws (below_draws (below_draws (below_draws (below_draws (B2.out) _) _) _) _) _⟩
set_option maxHeartbeats 4000000 in
set_option maxRecDepth 100000 in
theorem s_l03Balance (A L D S : Option Addr) (ca cl cd n cs : Nat) (c : Int) (hub tip : Nat) (a l d s : List Nat) (k B f wi sp p : Nat) (w : World) (h : Rt w A L D S a l d s) (hs : s.length = n * 3) (hkn : k < n) (hn2 : n ≤ 1048576) (hk : Blk7 w B A L D S a l d ca cl cd n cs c hub tip) (hr : RotAt s c hub tip k) (hv : validP a l d = true) (ha : fin .f32 (angZ (twi s k) f p) = true) :
    Calls Tryz.prog 104 #[.pointer (some ⟨B, 0, none⟩), .int .i64 k, .float .f32 f, .float .f32 wi, .float .f32 sp, .float .f32 p] w fun e w' => ∃ r, e = .returned (.float .f32 r) ∧ canon .f32 r = balZ a l d (floatOfInt .f32 c) tip (rad s k) (chd s k) (twi s k) f wi sp p ∧ Below w.heap.size w w' := by
  obtain ⟨b, off, rfl, -, -⟩ := h.2.at_ (k := k * 3) (by omega)
  have HR := Lib.hid h; clear h
  have HK := Lib.hid hk; clear hk
  have HRA := Lib.hid hr; clear hr
  have HV := Lib.hid hv; clear hv
  have HA := Lib.hid ha; clear ha
  go_enter Tryz.func104, Tryz.ntmps104
  go_wp2_with fail
  refine (s_l03Slow A L D (some ⟨b, off, none⟩) ca cl cd n cs c hub tip a l d s k B f p _ HR.out hs hkn hn2 HK.out HRA.out HV.out HA.out).mono ?_
  rintro e w1 ⟨rk, rm, r1, t1, rfl, hrk, hrm, -, -, b1⟩
  have E1 := Lib.hid hrk
  have E2 := Lib.hid hrm
  have B1 := Lib.hid b1
  have R1 : Hid (Rt w1 A L D (some ⟨b, off, none⟩) a l d s) := Lib.hid (HR.out.below b1)
  have K1 : Hid (Blk7 w1 B A L D (some ⟨b, off, none⟩) a l d ca cl cd n cs c hub tip) := Lib.hid (HK.out.below b1)
  clear hrk hrm b1
  go_wp2_with fail
  refine (s_l01Sine _ _).mono ?_
  rintro e w' ⟨r3, m3, rfl, c3, rfl⟩
  have C3 : Hid (canon .f32 r3 = sinC f) := Lib.hid c3
  clear c3
  go_wp2_with fail
  refine (s_l01Sine _ _).mono ?_
  rintro e w' ⟨r4, m4, rfl, c4, rfl⟩
  have C4 : Hid (canon .f32 r4 = cosC f) := Lib.hid (by rw [c4, canonF rfl rfl]; rfl)
  clear c4
  have hc0 := R1.out.2.same rfl (k := k * 3) (by omega)
  rw [show s.getD (k * 3) 0 = rad s k from rfl] at hc0
  obtain ⟨k0, k1, k2, k3, k4, k5, k6⟩ := K1.out.limbs
  go_wp2
  have E : ∀ {W1 W2 W3 W4 W5 W6 W7 W8 : World}, canon .f32 (fopV .sub .f32 (fopV .mul .f32 r3 (fopV .add .f32 1065353216 rk W1) W2) (fopV .mul .f32 (fopV .mul .f32 (fopV .quo .f32 wi (fopV .mul .f32 sp (rad s k) W3) W4) r4 W5) (fopV .sub .f32 1065353216 rm W6) W7) W8) = balZ a l d (floatOfInt .f32 c) tip (rad s k) (chd s k) (twi s k) f wi sp p := canonF (canonF C3.out (canonF rfl E1.out)) (canonF (canonF (canonF rfl (canonF rfl rfl)) C4.out) (canonF rfl E2.out))
  go_ret
  exact ⟨_, rfl, E, by first | exact B1.out | exact below_draws (B1.out) _ | exact below_draws (below_draws (B1.out) _) _ | exact below_draws (below_draws (below_draws (B1.out) _) _) _ | exact below_draws (below_draws (below_draws (below_draws (B1.out) _) _) _) _ | exact below_draws (below_draws (below_draws (below_draws (below_draws (B1.out) _) _) _) _) _⟩
set_option maxHeartbeats 4000000 in
theorem s_l03Can (A L D S : Option Addr) (ca cl cd n cs : Nat) (c : Int) (hub tip : Nat) (a l d s : List Nat) (i : Int) (B wi sp p : Nat) (w : World) (h : Rt w A L D S a l d s) (hn : FewR a l d s n) (hk : Blk7 w B A L D S a l d ca cl cd n cs c hub tip) :
    Calls Tryz.prog 71 #[.pointer (some ⟨B, 0, none⟩), .int .i64 i, .float .f32 wi, .float .f32 sp, .float .f32 p] w fun e w' => e = .returned (.bool (canB a l d s n c hub tip i wi sp p)) ∧ Below w.heap.size w w' := by
  have HR := Lib.hid h; clear h
  have hn1 := hn.1
  have HN := Lib.hid hn; clear hn
  have HK := Lib.hid hk; clear hk
  cases hst : statR a l d s n c hub tip i
  · have HST := Lib.hid hst; clear hst
    go_enter Tryz.func71, Tryz.ntmps71
    go_wp2_with fail
    refine (s_l03Station A L D S ca cl cd n cs c hub tip a l d s i B _ HR.out HN.out HK.out).mono ?_
    rintro e w1 ⟨rfl, b1⟩
    rw [HST.out]
    go_wp2
    go_ret
    exact ⟨by unfold canB; rw [HST.out]; rfl, by first | exact b1 | exact below_draws (b1) _ | exact below_draws (below_draws (b1) _) _ | exact below_draws (below_draws (below_draws (b1) _) _) _ | exact below_draws (below_draws (below_draws (below_draws (b1) _) _) _) _ | exact below_draws (below_draws (below_draws (below_draws (below_draws (b1) _) _) _) _) _⟩
  · obtain ⟨k, rfl, hk, hv⟩ := statR_at hst
    have HRA := Lib.hid (rotAt hv hk); clear hv
    cases h1 : posi wi
    · have HC : Hid (canB a l d s n c hub tip k wi sp p = false) := Lib.hid (by unfold canB couB; rw [h1]; simp)
      have HST := Lib.hid hst; clear hst
      have H1 := Lib.hid h1; clear h1
      go_enter Tryz.func71, Tryz.ntmps71
      go_wp2_with fail
      refine (s_l03Station A L D S ca cl cd n cs c hub tip a l d s k B _ HR.out HN.out HK.out).mono ?_
      rintro e w1 ⟨rfl, b1⟩
      rw [HST.out]
      go_wp2_with fail
      refine (s_l02Above _ _).mono ?_
      rintro e w' ⟨m1, rfl, rfl⟩
      rw [H1.out]
      go_wp2
      go_ret
      exact ⟨by rw [HC.out]; rfl, by first | exact b1 | exact below_draws (b1) _ | exact below_draws (below_draws (b1) _) _ | exact below_draws (below_draws (below_draws (b1) _) _) _ | exact below_draws (below_draws (below_draws (below_draws (b1) _) _) _) _ | exact below_draws (below_draws (below_draws (below_draws (below_draws (b1) _) _) _) _) _⟩
    · cases h2 : posi sp
      · have HC : Hid (canB a l d s n c hub tip k wi sp p = false) := Lib.hid (by unfold canB couB; rw [h2]; simp)
        have HST := Lib.hid hst; clear hst
        have H1 := Lib.hid h1; clear h1
        have H2 := Lib.hid h2; clear h2
        go_enter Tryz.func71, Tryz.ntmps71
        go_wp2_with fail
        refine (s_l03Station A L D S ca cl cd n cs c hub tip a l d s k B _ HR.out HN.out HK.out).mono ?_
        rintro e w1 ⟨rfl, b1⟩
        rw [HST.out]
        go_wp2_with fail
        refine (s_l02Above _ _).mono ?_
        rintro e w' ⟨m1, rfl, rfl⟩
        rw [H1.out]
        go_wp2_with fail
        refine (s_l02Above _ _).mono ?_
        rintro e w' ⟨m2, rfl, rfl⟩
        rw [H2.out]
        go_wp2
        go_ret
        exact ⟨by rw [HC.out]; rfl, by first | exact b1 | exact below_draws (b1) _ | exact below_draws (below_draws (b1) _) _ | exact below_draws (below_draws (below_draws (b1) _) _) _ | exact below_draws (below_draws (below_draws (below_draws (b1) _) _) _) _ | exact below_draws (below_draws (below_draws (below_draws (below_draws (b1) _) _) _) _) _⟩
      · cases h3 : fin .f32 p
        all_goals
          have HCO : Hid (couB wi sp p = _) := Lib.hid (by unfold couB; rw [h1, h2, h3])
          have HC : Hid (canB a l d s n c hub tip k wi sp p = (couB wi sp p && fin .f32 (angZ (twi s k) 981668463 p))) := Lib.hid (by unfold canB; rw [hst, Bool.true_and]; rfl)
          have HST := Lib.hid hst; clear hst
          have H1 := Lib.hid h1; clear h1
          have H2 := Lib.hid h2; clear h2
          have H3 := Lib.hid h3; clear h3
          go_enter Tryz.func71, Tryz.ntmps71
          go_wp2_with fail
          refine (s_l03Station A L D S ca cl cd n cs c hub tip a l d s k B _ HR.out HN.out HK.out).mono ?_
          rintro e w1 ⟨rfl, b1⟩
          rw [HST.out]
          have R1 : Hid (Rt w1 A L D S a l d s) := Lib.hid (HR.out.below b1)
          have K1 : Hid (Blk7 w1 B A L D S a l d ca cl cd n cs c hub tip) := Lib.hid (HK.out.below b1)
          have RD : ∀ m, Hid (Rt (w1.drewN m) A L D S a l d s) := fun _ => R1
          have KD : ∀ m, Hid (Blk7 (w1.drewN m) B A L D S a l d ca cl cd n cs c hub tip) := fun _ => K1
          go_wp2_with fail
          refine (s_l02Above _ _).mono ?_
          rintro e w' ⟨m1, rfl, rfl⟩
          rw [H1.out]
          go_wp2_with fail
          refine (s_l02Above _ _).mono ?_
          rintro e w' ⟨m2, rfl, rfl⟩
          rw [H2.out]
          go_wp2_with fail
          refine (s_l01Finite _ _).mono ?_
          rintro e w' ⟨m3, rfl, rfl⟩
          rw [H3.out]
        · go_wp2
          go_ret
          exact ⟨by rw [HC.out, HCO.out]; rfl, by first | exact b1 | exact below_draws (b1) _ | exact below_draws (below_draws (b1) _) _ | exact below_draws (below_draws (below_draws (b1) _) _) _ | exact below_draws (below_draws (below_draws (below_draws (b1) _) _) _) _ | exact below_draws (below_draws (below_draws (below_draws (below_draws (b1) _) _) _) _) _⟩
        · have HAA : Hid ((fin .f32 (angZ (twi s k) 981668463 p) && fin .f32 (angZ (twi s k) 1048508891 p)) = fin .f32 (angZ (twi s k) 981668463 p)) := Lib.hid (by rw [ang_flow bd_c2 bd_c1 HRA.out.twi H3.out, Bool.and_self])
          go_wp2_with fail
          refine (s_l03Angle A L D S ca cl cd n cs c hub tip a l d s k B p _ (RD _).out.2 hn1 hk (KD _).out).mono ?_
          rintro e w' ⟨m4, rfl, rfl⟩
          rw [HAA.out]
          go_wp2
          go_ret
          exact ⟨by rw [HC.out, HCO.out]; rfl, by first | exact b1 | exact below_draws (b1) _ | exact below_draws (below_draws (b1) _) _ | exact below_draws (below_draws (below_draws (b1) _) _) _ | exact below_draws (below_draws (below_draws (below_draws (b1) _) _) _) _ | exact below_draws (below_draws (below_draws (below_draws (below_draws (b1) _) _) _) _) _⟩
end Go.Proofs.YtahbcpjipomcgaaGreat
namespace Go.Proofs.YtahbcpjipomcgaaGreat
open Go Go.RowKit
theorem flow_can_no {a l d s : List Nat} {n : Nat} {c : Int} {hub tip : Nat} {i : Int} {wi sp p : Nat} (h : canB a l d s n c hub tip i wi sp p = false) : floO a l d s n c hub tip i wi sp p = false ∧ floV a l d s n c hub tip i wi sp p = 0 := by
  cases hc : floC a l d s n c hub tip i wi sp p
  · exact ⟨by unfold floO; rw [hc]; rfl, by unfold floV; rw [hc]; rfl⟩
  · have hc' := hc
    unfold floC at hc
    rw [Bool.and_eq_true] at hc
    obtain ⟨hs, hco⟩ := hc
    obtain ⟨k, rfl, hk, hv⟩ := statR_at hs
    have hr := rotAt hv hk
    unfold canB at h
    rw [hs, hco, Bool.true_and, Bool.true_and, show ((k : Int).toNat) = k from rfl] at h
    have hx := (halfW_bd bd_c1 bd_c2).2
    rw [ang_flow bd_c1 hx hr.twi (couB_fin hco)] at h
    have e1 : flowS a l d (floatOfInt .f32 c) tip (rad s k) (chd s k) (twi s k) wi sp p 1 = none := flowS_no (k := 0) rfl (by unfold balG; rw [puG_a h]; rfl)
    have e2 : flSt a l d s c tip k wi sp p = none := flowS_stay e1 23
    exact ⟨by unfold floO; rw [show ((k : Int).toNat) = k from rfl, e2]; simp, by unfold floV; rw [show ((k : Int).toNat) = k from rfl, e2, hc']; rfl⟩
theorem flow_can_yes {a l d s : List Nat} {n : Nat} {c : Int} {hub tip : Nat} {k : Nat} {wi sp p : Nat} (h : canB a l d s n c hub tip k wi sp p = true) : fin .f32 p = true ∧ fin .f32 (angZ (twi s k) 981668463 p) = true ∧ floO a l d s n c hub tip k wi sp p = (flSt a l d s c tip k wi sp p).isSome ∧ floV a l d s n c hub tip k wi sp p = flV (flSt a l d s c tip k wi sp p) := by
  unfold canB at h
  rw [Bool.and_eq_true, Bool.and_eq_true, show ((k : Int).toNat) = k from rfl] at h
  obtain ⟨hs, hco, ha⟩ := h
  have e : floC a l d s n c hub tip k wi sp p = true := by unfold floC; rw [hs, hco]; rfl
  exact ⟨couB_fin hco, ha, by unfold floO; rw [e]; rfl, by unfold floV; rw [e]; rfl⟩
set_option maxHeartbeats 4000000 in
set_option maxRecDepth 100000 in
theorem s_l03FlowAt (A L D S : Option Addr) (ca cl cd n cs : Nat) (c : Int) (hub tip : Nat) (a l d s : List Nat) (k0 B wi sp p : Nat) (w : World) (h : Rt w A L D S a l d s) (hs : s.length = n * 3) (hkn : k0 < n) (hn2 : n ≤ 1048576) (hk : Blk7 w B A L D S a l d ca cl cd n cs c hub tip) (hr : RotAt s c hub tip k0) (hv : validP a l d = true) (hp : fin .f32 p = true) (ha : fin .f32 (angZ (twi s k0) 981668463 p) = true) :
    Calls Tryz.prog 92 #[.pointer (some ⟨B, 0, none⟩), .int .i64 k0, .float .f32 wi, .float .f32 sp, .float .f32 p] w fun e w' => e = .returned (.tuple #[.float .f32 (flV (flSt a l d s c tip k0 wi sp p)), .bool (flSt a l d s c tip k0 wi sp p).isSome]) ∧ Below w.heap.size w w' := by
  have HR := Lib.hid h; clear h
  have HK := Lib.hid hk; clear hk
  have HRA := Lib.hid hr; clear hr
  have HV := Lib.hid hv; clear hv
  have HA : ∀ m, Bd .f32 0 m → fin .f32 (angZ (twi s k0) m p) = true := fun m hm => by rw [← ang_flow bd_c1 hm HRA.out.twi hp]; exact ha
  have HAH := Lib.hid HA; clear HA ha hp
  have HFL : Hid (flSt a l d s c tip k0 wi sp p = flowS a l d (floatOfInt .f32 c) tip (rad s k0) (chd s k0) (twi s k0) wi sp p 24) := rfl
  go_enter Tryz.func92, Tryz.ntmps92
  go_wp2_with fail
  go_loopw [12, 13, 14] (fun lo hi i wr => ∃ k u v : Nat, k ≤ 24 ∧ i = .int .i64 k ∧ lo = .float .f32 u ∧ hi = .float .f32 v ∧ Hid (flowS a l d (floatOfInt .f32 c) tip (rad s k0) (chd s k0) (twi s k0) wi sp p k = some (u, v)) ∧ Hid (Below w.heap.size w wr)) (fun _ _ i _ => 24 - (intOf i).toNat)
  case atStart => exact ⟨0, 981668463, 1048508891, Nat.zero_le _, rfl, rfl, rfl, rfl, Lib.hid (Below.refl _ _)⟩
  case round =>
    obtain ⟨k, u, v, hk, rfl, rfl, rfl, hS, hb⟩ := hrel
    by_cases hlt : k < 24
    · obtain ⟨i1, i2⟩ := flowS_bd k u v hS.out
      obtain ⟨i3, i4⟩ := halfW_bd i1 i2
      obtain ⟨e1, e2⟩ := bd_sure i3
      obtain ⟨e3, e4⟩ := bd_sure i4
      have ha := HAH.out _ i4
      clear i1 i2 i3 i4
      obtain ⟨m, hm⟩ : ∃ m, m = halfW u v := ⟨_, rfl⟩
      have HM := Lib.hid hm
      rw [show fop .mul .f32 1056964608 (fop .add .f32 u v) = m from hm.symm] at e3
      rw [← hm] at ha
      clear hm
      have HA := Lib.hid ha; clear ha
      have hwr : IntKind.i64.wrap ((k : Int) + 1) = (k : Int) + 1 := IntWalk.i64_in _ (by omega)
      have hge : (0 : Int) ≤ (k : Int) + 1 := by omega
      have htn : ((k : Int) + 1).toNat = k + 1 := by omega
      have hlt0 : (k : Int) < 24 := by omega
      cases hg : balG a l d (floatOfInt .f32 c) tip (rad s k0) (chd s k0) (twi s k0) m wi sp p
      · have HG := Lib.hid hg; clear hg
        go_wp2_with fail
        refine (s_l03Balance A L D S ca cl cd n cs c hub tip a l d s k0 B m wi sp p _ (HR.out.below hb.out) hs hkn hn2 (HK.out.below hb.out) HRA.out HV.out HA.out).mono ?_
        rintro e w1 ⟨r, rfl, hr, b1⟩
        have HF : Hid (fin .f32 r = false) := Lib.hid (by rw [← fin_canon, hr, ← balG_ang HA.out]; exact HG.out)
        have B1 : Hid (Below w.heap.size w w1) := Lib.hid (below_of hb.out hb.out.size b1)
        clear b1 hr
        go_wp2_with fail
        refine (s_l01Finite _ _).mono ?_
        rintro e w' ⟨m1, rfl, rfl⟩
        rw [HF.out]
        have HS : Hid (flSt a l d s c tip k0 wi sp p = none) := Lib.hid (by
          have e := flowS_stay (flowS_no hS.out (by rw [← HM.out]; exact HG.out)) (24 - (k + 1))
          rw [show k + 1 + (24 - (k + 1)) = 24 by omega] at e
          exact e)
        go_wp2
        refine bodyPost_ret (results_tmp2 rfl _ _ _) rfl ?_
        exact ⟨by rw [HS.out]; rfl, below_draws B1.out _⟩
      · cases ht : gtr32 (balZ a l d (floatOfInt .f32 c) tip (rad s k0) (chd s k0) (twi s k0) m wi sp p) 0
        all_goals
          have HG := Lib.hid hg; clear hg
          have HT := Lib.hid ht; clear ht
          go_wp2_with fail
          refine (s_l03Balance A L D S ca cl cd n cs c hub tip a l d s k0 B m wi sp p _ (HR.out.below hb.out) hs hkn hn2 (HK.out.below hb.out) HRA.out HV.out HA.out).mono ?_
          rintro e w1 ⟨r, rfl, hr, b1⟩
          have HF : Hid (fin .f32 r = true) := Lib.hid (by rw [← fin_canon, hr, ← balG_ang HA.out]; exact HG.out)
          have hgt : (FloatKind.f32.format.order r 0 == some .gt) = _ := (gtr_canon hr).trans HT.out
          have B1 : Hid (Below w.heap.size w w1) := Lib.hid (below_of hb.out hb.out.size b1)
          have B1d : ∀ m, Hid (Below w.heap.size w (w1.drewN m)) := fun _ => Lib.hid (below_draws B1.out _)
          clear b1 hr
          go_wp2_with fail
          refine (s_l01Finite _ _).mono ?_
          rintro e w' ⟨m1, rfl, rfl⟩
          rw [HF.out]
          go_wp2
          go_roundw
        · exact ⟨k + 1, m, v, by omega, by go_num, rfl, rfl, Lib.hid (by rw [flowS_lo hS.out (by rw [← HM.out]; exact HG.out) (by rw [← HM.out]; exact HT.out), ← HM.out]), B1d _⟩
        · simp [intOf]; omega
        · exact ⟨k + 1, u, m, by omega, by go_num, rfl, rfl, Lib.hid (by rw [flowS_hi hS.out (by rw [← HM.out]; exact HG.out) (by rw [← HM.out]; exact HT.out), ← HM.out]), B1d _⟩
        · simp [intOf]; omega
    · have hkk : k = 24 := by omega
      subst hkk
      go_wp2
      refine bodyPost_ret (results_tmp2 rfl _ _ _) rfl ?_
      exact ⟨by rw [HFL.out, hS.out]; rfl, hb.out⟩
end Go.Proofs.YtahbcpjipomcgaaGreat
namespace Go.Proofs.YtahbcpjipomcgaaGreat
open Go Go.RowKit
def indK (k : Nat) : Nat := fop .quo .f32 k (fop .add .f32 (canon .f32 1065353216) k)
def indM (m : Nat) : Nat := fop .quo .f32 m (fop .sub .f32 (canon .f32 1065353216) m)
theorem ind_not {a l d : List Nat} {q tip x y z f p : Nat} (ha : fin .f32 (angZ z f p) = true) (h : puG a l d z f p = false) : (fin .f32 (indK (kB a l d q tip x y z f p)) && fin .f32 (indM (mB a l d q tip x y z f p))) = false := by
  unfold puG at h
  rw [ha, Bool.true_and] at h
  unfold kB mB indK indM
  cases h1 : fin .f32 (pusN a l d z f p)
  · rw [quoL_not_fin (quoL_not_fin (mulR_not_fin h1))]; rfl
  · rw [h1, Bool.true_and] at h
    rw [Bool.and_comm, quoL_not_fin (quoL_not_fin (mulR_not_fin h))]; rfl
def gK (a l d s : List Nat) (c : Int) (tip k wi sp p : Nat) : Bool := mibG a l d (floatOfInt .f32 c) tip (rad s k) (chd s k) (twi s k) wi sp p
def vK (a l d s : List Nat) (c : Int) (tip k wi sp p : Nat) : Nat := indK (kB a l d (floatOfInt .f32 c) tip (rad s k) (chd s k) (twi s k) (flV (flSt a l d s c tip k wi sp p)) p)
def vM (a l d s : List Nat) (c : Int) (tip k wi sp p : Nat) : Nat := indM (mB a l d (floatOfInt .f32 c) tip (rad s k) (chd s k) (twi s k) (flV (flSt a l d s c tip k wi sp p)) p)
def inO (a l d s : List Nat) (n : Nat) (c : Int) (hub tip : Nat) (i : Int) (wi sp p : Nat) : Bool := floC a l d s n c hub tip i wi sp p && (gK a l d s c tip i.toNat wi sp p && (fin .f32 (vK a l d s c tip i.toNat wi sp p) && fin .f32 (vM a l d s c tip i.toNat wi sp p)))
def in1 (a l d s : List Nat) (n : Nat) (c : Int) (hub tip : Nat) (i : Int) (wi sp p : Nat) : Nat := if floC a l d s n c hub tip i wi sp p && gK a l d s c tip i.toNat wi sp p then both1 (vK a l d s c tip i.toNat wi sp p) (vM a l d s c tip i.toNat wi sp p) else 0
def in2 (a l d s : List Nat) (n : Nat) (c : Int) (hub tip : Nat) (i : Int) (wi sp p : Nat) : Nat := if floC a l d s n c hub tip i wi sp p && gK a l d s c tip i.toNat wi sp p then both2 (vK a l d s c tip i.toNat wi sp p) (vM a l d s c tip i.toNat wi sp p) else 0
theorem in_no {a l d s : List Nat} {n : Nat} {c : Int} {hub tip : Nat} {i : Int} {wi sp p : Nat} (h : (floC a l d s n c hub tip i wi sp p && gK a l d s c tip i.toNat wi sp p) = false) : inO a l d s n c hub tip i wi sp p = false ∧ in1 a l d s n c hub tip i wi sp p = 0 ∧ in2 a l d s n c hub tip i wi sp p = 0 :=
  ⟨by unfold inO; rw [← Bool.and_assoc, h]; rfl, by unfold in1; rw [h]; rfl, by unfold in2; rw [h]; rfl⟩
theorem in_no0 {a l d s : List Nat} {n : Nat} {c : Int} {hub tip : Nat} {i : Int} {wi sp p : Nat} (h : floO a l d s n c hub tip i wi sp p = false) : inO a l d s n c hub tip i wi sp p = false ∧ in1 a l d s n c hub tip i wi sp p = 0 ∧ in2 a l d s n c hub tip i wi sp p = 0 := by
  refine in_no ?_
  unfold floO flSt at h
  unfold gK mibG
  rw [← Bool.and_assoc, h]; rfl
theorem in_yes {a l d s : List Nat} {n : Nat} {c : Int} {hub tip : Nat} {k : Nat} {wi sp p : Nat} (hc : canB a l d s n c hub tip k wi sp p = true) (hs : (flSt a l d s c tip k wi sp p).isSome = true) :
    fin .f32 (angZ (twi s k) (flV (flSt a l d s c tip k wi sp p)) p) = true ∧ inO a l d s n c hub tip k wi sp p = (fin .f32 (vK a l d s c tip k wi sp p) && fin .f32 (vM a l d s c tip k wi sp p)) ∧ in1 a l d s n c hub tip k wi sp p = both1 (vK a l d s c tip k wi sp p) (vM a l d s c tip k wi sp p) ∧ in2 a l d s n c hub tip k wi sp p = both2 (vK a l d s c tip k wi sp p) (vM a l d s c tip k wi sp p) := by
  obtain ⟨hp, ha, e1, -⟩ := flow_can_yes hc
  unfold canB at hc
  rw [Bool.and_eq_true, Bool.and_eq_true] at hc
  obtain ⟨hst, hco, -⟩ := hc
  obtain ⟨k', e0, hk, hv⟩ := statR_at hst
  obtain rfl : k = k' := by omega
  have hr := rotAt hv hk
  have hfc : floC a l d s n c hub tip k wi sp p = true := by unfold floC; rw [hst, hco]; rfl
  have hbd : Bd .f32 0 (flV (flSt a l d s c tip k wi sp p)) := by
    cases hq : flSt a l d s c tip k wi sp p with
    | none => rw [hq] at hs; cases hs
    | some e => obtain ⟨u, v⟩ := e; unfold flSt at hq; exact (flowS_bd 24 u v hq).1
  rw [ang_flow bd_c1 hbd hr.twi hp] at ha
  refine ⟨ha, ?_⟩
  have hg : gK a l d s c tip k wi sp p = puG a l d (twi s k) (flV (flSt a l d s c tip k wi sp p)) p := by unfold flSt at hs ⊢; unfold gK mibG; rw [hs, Bool.true_and]
  unfold inO in1 in2
  rw [show ((k : Int).toNat) = k from rfl, hfc, hg, Bool.true_and, Bool.true_and]
  cases hx : puG a l d (twi s k) (flV (flSt a l d s c tip k wi sp p)) p
  · have hn : (fin .f32 (vK a l d s c tip k wi sp p) && fin .f32 (vM a l d s c tip k wi sp p)) = false := ind_not ha hx
    unfold both1 both2
    rw [hn]; exact ⟨rfl, rfl, rfl⟩
  · exact ⟨by simp only [Bool.true_and], by simp only [if_true], by simp only [if_true]⟩
end Go.Proofs.YtahbcpjipomcgaaGreat
namespace Go.Proofs.YtahbcpjipomcgaaGreat
open Go Go.RowKit
theorem for_not {a l d : List Nat} {q tip x y z wi sp p dn : Nat} (ha : fin .f32 (angZ z (flV (flowS a l d q tip x y z wi sp p 24)) p) = true) (h : puG a l d z (flV (flowS a l d q tip x y z wi sp p 24)) p = false) : (fin .f32 (fo1 a l d q tip x y z wi sp p dn) && fin .f32 (fo2 a l d q tip x y z wi sp p dn)) = false := by
  unfold puG at h
  rw [ha, Bool.true_and] at h
  unfold fo1 fo2
  cases h1 : fin .f32 (pusN a l d z (flV (flowS a l d q tip x y z wi sp p 24)) p)
  · rw [mulR_not_fin h1]; rfl
  · rw [h1, Bool.true_and] at h
    rw [Bool.and_comm, mulR_not_fin h]; rfl
def fK1 (a l d s : List Nat) (c : Int) (tip k wi sp p dn : Nat) : Nat := fo1 a l d (floatOfInt .f32 c) tip (rad s k) (chd s k) (twi s k) wi sp p dn
def fK2 (a l d s : List Nat) (c : Int) (tip k wi sp p dn : Nat) : Nat := fo2 a l d (floatOfInt .f32 c) tip (rad s k) (chd s k) (twi s k) wi sp p dn
def stC (a l d s : List Nat) (n : Nat) (c : Int) (hub tip : Nat) (i : Int) (wi sp p dn : Nat) : Bool := floC a l d s n c hub tip i wi sp p && (posi dn && gK a l d s c tip i.toNat wi sp p)
def stO (a l d s : List Nat) (n : Nat) (c : Int) (hub tip : Nat) (i : Int) (wi sp p dn : Nat) : Bool := stC a l d s n c hub tip i wi sp p dn && (fin .f32 (fK1 a l d s c tip i.toNat wi sp p dn) && fin .f32 (fK2 a l d s c tip i.toNat wi sp p dn))
def st1 (a l d s : List Nat) (n : Nat) (c : Int) (hub tip : Nat) (i : Int) (wi sp p dn : Nat) : Nat := if stC a l d s n c hub tip i wi sp p dn then both1 (fK1 a l d s c tip i.toNat wi sp p dn) (fK2 a l d s c tip i.toNat wi sp p dn) else 0
def st2 (a l d s : List Nat) (n : Nat) (c : Int) (hub tip : Nat) (i : Int) (wi sp p dn : Nat) : Nat := if stC a l d s n c hub tip i wi sp p dn then both2 (fK1 a l d s c tip i.toNat wi sp p dn) (fK2 a l d s c tip i.toNat wi sp p dn) else 0
theorem st_no {a l d s : List Nat} {n : Nat} {c : Int} {hub tip : Nat} {i : Int} {wi sp p dn : Nat} (h : stC a l d s n c hub tip i wi sp p dn = false) : stO a l d s n c hub tip i wi sp p dn = false ∧ st1 a l d s n c hub tip i wi sp p dn = 0 ∧ st2 a l d s n c hub tip i wi sp p dn = 0 :=
  ⟨by unfold stO; rw [h]; rfl, by unfold st1; rw [h]; rfl, by unfold st2; rw [h]; rfl⟩
theorem st_no0 {a l d s : List Nat} {n : Nat} {c : Int} {hub tip : Nat} {i : Int} {wi sp p dn : Nat} (h : floO a l d s n c hub tip i wi sp p = false) : stC a l d s n c hub tip i wi sp p dn = false := by
  unfold floO flSt at h
  unfold stC gK mibG
  cases hf : floC a l d s n c hub tip i wi sp p
  · rfl
  · rw [hf, Bool.true_and] at h
    rw [h]; simp
theorem st_yes {a l d s : List Nat} {n : Nat} {c : Int} {hub tip : Nat} {k : Nat} {wi sp p dn : Nat} (hc : canB a l d s n c hub tip k wi sp p = true) (hd : posi dn = true) (hs : (flSt a l d s c tip k wi sp p).isSome = true) :
    fin .f32 (angZ (twi s k) (flV (flSt a l d s c tip k wi sp p)) p) = true ∧ stO a l d s n c hub tip k wi sp p dn = (fin .f32 (fK1 a l d s c tip k wi sp p dn) && fin .f32 (fK2 a l d s c tip k wi sp p dn)) ∧ st1 a l d s n c hub tip k wi sp p dn = both1 (fK1 a l d s c tip k wi sp p dn) (fK2 a l d s c tip k wi sp p dn) ∧ st2 a l d s n c hub tip k wi sp p dn = both2 (fK1 a l d s c tip k wi sp p dn) (fK2 a l d s c tip k wi sp p dn) := by
  obtain ⟨ha, -, -, -⟩ := in_yes hc hs
  refine ⟨ha, ?_⟩
  unfold canB at hc
  rw [Bool.and_eq_true, Bool.and_eq_true] at hc
  obtain ⟨hst, hco, -⟩ := hc
  have hfc : floC a l d s n c hub tip k wi sp p = true := by unfold floC; rw [hst, hco]; rfl
  have hg : gK a l d s c tip k wi sp p = puG a l d (twi s k) (flV (flSt a l d s c tip k wi sp p)) p := by unfold flSt at hs ⊢; unfold gK mibG; rw [hs, Bool.true_and]
  have hC : stC a l d s n c hub tip k wi sp p dn = puG a l d (twi s k) (flV (flSt a l d s c tip k wi sp p)) p := by unfold stC; rw [show ((k : Int).toNat) = k from rfl, hfc, hd, hg, Bool.true_and, Bool.true_and]
  unfold stO st1 st2
  rw [show ((k : Int).toNat) = k from rfl, hC]
  cases hx : puG a l d (twi s k) (flV (flSt a l d s c tip k wi sp p)) p
  · have hn : (fin .f32 (fK1 a l d s c tip k wi sp p dn) && fin .f32 (fK2 a l d s c tip k wi sp p dn)) = false := by unfold flSt at ha hx; unfold fK1 fK2; exact for_not ha hx
    unfold both1 both2
    rw [hn]; exact ⟨rfl, rfl, rfl⟩
  · exact ⟨by simp only [Bool.true_and], by simp only [if_true], by simp only [if_true]⟩
set_option maxHeartbeats 4000000 in
set_option maxRecDepth 100000 in
theorem s_l03Forces_no (A L D S : Option Addr) (ca cl cd n cs : Nat) (c : Int) (hub tip : Nat) (a l d s : List Nat) (k B wi sp p dn : Nat) (w : World) (h : Rt w A L D S a l d s) (hs : s.length = n * 3) (hkn : k < n) (hn2 : n ≤ 1048576) (hk : Blk7 w B A L D S a l d ca cl cd n cs c hub tip) (hr : RotAt s c hub tip k) (hv : validP a l d = true) (hp : fin .f32 p = true) (ha : fin .f32 (angZ (twi s k) 981668463 p) = true) (hso : (flSt a l d s c tip k wi sp p).isSome = false) :
    Calls Tryz.prog 72 #[.pointer (some ⟨B, 0, none⟩), .int .i64 k, .float .f32 wi, .float .f32 sp, .float .f32 p, .float .f32 dn] w fun e w' => e = .returned (.tuple #[.float .f32 0, .float .f32 0, .bool false]) ∧ Below w.heap.size w w' := by
  have HR := Lib.hid h; clear h
  have HK := Lib.hid hk; clear hk
  have HRA := Lib.hid hr; clear hr
  have HV := Lib.hid hv; clear hv
  have HPF := Lib.hid hp; clear hp
  have HA := Lib.hid ha; clear ha
  have HS := Lib.hid hso; clear hso
  go_enter Tryz.func72, Tryz.ntmps72
  go_wp2_with fail
  refine (s_l03FlowAt A L D S ca cl cd n cs c hub tip a l d s k B wi sp p _ HR.out hs hkn hn2 HK.out HRA.out HV.out HPF.out HA.out).mono ?_
  rintro e w2 ⟨rfl, b2⟩
  have B2 := Lib.hid b2; clear b2
  rw [HS.out]
  go_wp2
  refine bodyPost_ret (results_tmp3 rfl _ _ _) rfl ?_
  exact ⟨rfl, B2.out⟩
set_option maxHeartbeats 4000000 in
set_option maxRecDepth 100000 in
theorem s_l03Forces (A L D S : Option Addr) (ca cl cd n cs : Nat) (c : Int) (hub tip : Nat) (a l d s : List Nat) (k B wi sp p dn : Nat) (w : World) (h : Rt w A L D S a l d s) (hs : s.length = n * 3) (hkn : k < n) (hn2 : n ≤ 1048576) (hk : Blk7 w B A L D S a l d ca cl cd n cs c hub tip) (hr : RotAt s c hub tip k) (hv : validP a l d = true) (hp : fin .f32 p = true) (ha : fin .f32 (angZ (twi s k) 981668463 p) = true) (hso : (flSt a l d s c tip k wi sp p).isSome = true) (ha2 : fin .f32 (angZ (twi s k) (flV (flSt a l d s c tip k wi sp p)) p) = true) :
    Calls Tryz.prog 72 #[.pointer (some ⟨B, 0, none⟩), .int .i64 k, .float .f32 wi, .float .f32 sp, .float .f32 p, .float .f32 dn] w fun e w' => ∃ r t, e = .returned (.tuple #[.float .f32 r, .float .f32 t, .bool (fin .f32 (fK1 a l d s c tip k wi sp p dn) && fin .f32 (fK2 a l d s c tip k wi sp p dn))]) ∧ canon .f32 r = both1 (fK1 a l d s c tip k wi sp p dn) (fK2 a l d s c tip k wi sp p dn) ∧ canon .f32 t = both2 (fK1 a l d s c tip k wi sp p dn) (fK2 a l d s c tip k wi sp p dn) ∧ Below w.heap.size w w' := by
  obtain ⟨b, off, rfl, -, -⟩ := h.2.at_ (k := k * 3) (by omega)
  have HR := Lib.hid h; clear h
  have HK := Lib.hid hk; clear hk
  have HRA := Lib.hid hr; clear hr
  have HV := Lib.hid hv; clear hv
  have HPF := Lib.hid hp; clear hp
  have HA := Lib.hid ha; clear ha
  have HA2 := Lib.hid ha2; clear ha2
  have HS := Lib.hid hso; clear hso
  go_enter Tryz.func72, Tryz.ntmps72
  go_wp2_with fail
  refine (s_l03FlowAt A L D (some ⟨b, off, none⟩) ca cl cd n cs c hub tip a l d s k B wi sp p _ HR.out hs hkn hn2 HK.out HRA.out HV.out HPF.out HA.out).mono ?_
  rintro e w2 ⟨rfl, b2⟩
  have B2 := Lib.hid b2
  have K2 : Hid (Blk7 w2 B A L D (some ⟨b, off, none⟩) a l d ca cl cd n cs c hub tip) := Lib.hid (HK.out.below b2)
  have R2 : Hid (Rt w2 A L D (some ⟨b, off, none⟩) a l d s) := Lib.hid (HR.out.below b2)
  clear b2
  rw [HS.out]
  go_wp2_with fail
  refine (s_l03Slow A L D (some ⟨b, off, none⟩) ca cl cd n cs c hub tip a l d s k B _ p _ R2.out hs hkn hn2 K2.out HRA.out HV.out HA2.out).mono ?_
  rintro e w3 ⟨rk, rm, r1, t1, rfl, hk1, hm1, hn1, ht1, b3⟩
  have B3 : Hid (Below w.heap.size w w3) := Lib.hid (below_of B2.out B2.out.size b3)
  have K3 : Hid (Blk7 w3 B A L D (some ⟨b, off, none⟩) a l d ca cl cd n cs c hub tip) := Lib.hid (K2.out.below b3)
  have R3 : Hid (Rt w3 A L D (some ⟨b, off, none⟩) a l d s) := Lib.hid (R2.out.below b3)
  unfold flSt at hk1 hm1 hn1 ht1
  have RK' := Lib.hid hk1
  have RM' := Lib.hid hm1
  have RN' := Lib.hid hn1
  have RT' := Lib.hid ht1
  have B3a : ∀ o, Hid (Below w.heap.size w (w3.alloc o)) := fun _ => Lib.hid (B3.out.alloc B3.out.size _)
  clear b3 hk1 hm1 hn1 ht1
  have hc0 := R3.out.2.same rfl (k := k * 3) (by omega)
  have hc1 := R3.out.2.same rfl (k := k * 3 + 1) (by omega)
  have hc2 := R3.out.2.same rfl (k := k * 3 + 2) (by omega)
  rw [← Nat.add_assoc] at hc1 hc2
  rw [show s.getD (k * 3) 0 = rad s k from rfl] at hc0
  rw [show s.getD (k * 3 + 1) 0 = chd s k from rfl] at hc1
  rw [show s.getD (k * 3 + 2) 0 = twi s k from rfl] at hc2
  obtain ⟨k0, k1, k2, k3, k4, k5, k6⟩ := K3.out.limbs
  go_wp2_with fail
  refine (s_l03Two _ _ (fK1 a l d s c tip k wi sp p dn) (fK2 a l d s c tip k wi sp p dn) _ ?e1 ?e2).mono ?_
  case e1 => unfold fK1 fo1 foQ foU foV; exact canonF (canonF (canonF (canonF rfl rfl) (canonF (canonF (canonF rfl (canonF rfl RK'.out)) (canonF rfl (canonF rfl RK'.out))) (canonF (canonF (canonF rfl rfl) (canonF rfl RM'.out)) (canonF (canonF rfl rfl) (canonF rfl RM'.out))))) rfl) RN'.out
  case e2 => unfold fK2 fo2 foQ foU foV; exact canonF (canonF (canonF (canonF rfl rfl) (canonF (canonF (canonF rfl (canonF rfl RK'.out)) (canonF rfl (canonF rfl RK'.out))) (canonF (canonF (canonF rfl rfl) (canonF rfl RM'.out)) (canonF (canonF rfl rfl) (canonF rfl RM'.out))))) rfl) RT'.out
  rintro e w' ⟨ra, rb, m, rfl, ha, hb, rfl⟩
  have QA := Lib.hid ha
  have QB := Lib.hid hb
  clear ha hb
  go_wp2
  refine bodyPost_ret (results_tmp3 rfl _ _ _) rfl ?_
  exact ⟨_, _, rfl, QA.out, QB.out, by first | exact below_draws (B3a _).out _ | exact below_draws (below_draws (B3a _).out _) _⟩
end Go.Proofs.YtahbcpjipomcgaaGreat
