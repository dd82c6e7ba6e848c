/- What a length of a blade takes: the program's side. No statement is proved here. -/
import Derived.Test.YtigfonnlhiedhaaMib
namespace Go.Proofs.Ytigfonnlhiedhaa
open Go Go.RowKit
def foU (a l d : List Nat) (q tip x y z wi sp p : Nat) : Nat := fop .quo .f32 (canon .f32 wi) (fop .add .f32 (canon .f32 1065353216) (kB a l d q tip x y z (flV (flowS a l d q tip x y z wi sp p 24)) p))
def foV (a l d : List Nat) (q tip x y z wi sp p : Nat) : Nat := fop .quo .f32 (fop .mul .f32 (canon .f32 sp) (canon .f32 x)) (fop .sub .f32 (canon .f32 1065353216) (mB a l d q tip x y z (flV (flowS a l d q tip x y z wi sp p 24)) p))
def foQ (a l d : List Nat) (q tip x y z wi sp p dn : Nat) : Nat := (fun U V => fop .mul .f32 (fop .mul .f32 (fop .mul .f32 (canon .f32 1056964608) (canon .f32 dn)) (fop .add .f32 (fop .mul .f32 U U) (fop .mul .f32 V V))) (canon .f32 y)) (foU a l d q tip x y z wi sp p) (foV a l d q tip x y z wi sp p)
def fo1 (a l d : List Nat) (q tip x y z wi sp p dn : Nat) : Nat := fop .mul .f32 (foQ a l d q tip x y z wi sp p dn) (pusN a l d z (flV (flowS a l d q tip x y z wi sp p 24)) p)
def fo2 (a l d : List Nat) (q tip x y z wi sp p dn : Nat) : Nat := fop .mul .f32 (foQ a l d q tip x y z wi sp p dn) (pusT a l d z (flV (flowS a l d q tip x y z wi sp p 24)) p)
set_option maxHeartbeats 8000000 in
set_option maxRecDepth 100000 in
theorem i_forceOn_no (x y z q tip : Nat) (A L D : Option Addr) (ca cl cd : Nat) (a l d : List Nat) (wi sp p dn : Nat) (w : World) (h : Pf w A L D a l d) (hn : Few a l d) (hv : validP a l d = true) (hg : mibG a l d q tip x y z wi sp p = false) :
    Calls Try.prog 76 #[.agg #[.float .f32 x, .float .f32 y, .float .f32 z, .slice A a.length ca, .slice L l.length cl, .slice D d.length cd, .float .f32 q, .float .f32 tip], .agg #[.float .f32 wi, .float .f32 sp, .float .f32 p], .float .f32 dn] w fun e w' => e = .returned (.agg #[.float .f32 0, .float .f32 0, .bool false]) ∧ Below w.heap.size w w' := by
  have HB3 : ∀ o1 o2 o3, Hid (Below w.heap.size w (((w.alloc o1).alloc o2).alloc o3)) := fun _ _ _ => Lib.hid ((((Below.refl _ _).alloc (Nat.le_refl _) _).alloc (by simp) _).alloc (by simp; omega) _)
  have HK0 : ∀ t o o', Hid (BlkB (((w.alloc (.cells #[.float .f32 x, .float .f32 y, .float .f32 z, .slice A a.length ca, .slice L l.length cl, .slice D d.length cd, .float .f32 q, .float .f32 tip] t)).alloc o).alloc o') w.heap.size x y z A L D a l d ca cl cd q tip) := fun t o o' => Lib.hid (((blkL_at w #[.float .f32 x, .float .f32 y, .float .f32 z, .slice A a.length ca, .slice L l.length cl, .slice D d.length cd, .float .f32 q, .float .f32 tip] t rfl).alloc o).alloc o')
  have HK1 : ∀ o t o', Hid (BlkL (((w.alloc o).alloc (.cells #[.float .f32 wi, .float .f32 sp, .float .f32 p] t)).alloc o') (w.heap.size + 1) [.float .f32 wi, .float .f32 sp, .float .f32 p]) := fun o t o' => Lib.hid ((blkL_at (w.alloc o) #[.float .f32 wi, .float .f32 sp, .float .f32 p] t (by simp)).alloc o')
  have HK2 : ∀ o o' t, Hid (BlkL (((w.alloc o).alloc o').alloc (.cells #[.float .f32 0, .float .f32 0, .bool false] t)) (w.heap.size + 2) [.float .f32 0, .float .f32 0, .bool false]) := fun o o' t => Lib.hid (blkL_at ((w.alloc o).alloc o') #[.float .f32 0, .float .f32 0, .bool false] t (by simp))
  have hb2 : w.heap.size ≤ w.heap.size + 2 := by omega
  have HP := Lib.hid h; clear h
  have HN := Lib.hid hn; clear hn
  have HV := Lib.hid hv; clear hv
  have HG := Lib.hid hg; clear hg
  go_enter Try.func76, Try.ntmps76
  go_wp2_with fail
  refine (i_mib_no x y z q tip A L D ca cl cd a l d wi sp p _ (HP.out.below (HB3 _ _ _).out) HN.out HV.out HG.out).mono ?_
  rintro e w3 ⟨rfl, b3⟩
  have B3 : Hid (Below w.heap.size w w3) := Lib.hid (below_of (HB3 _ _ _).out (HB3 _ _ _).out.size b3)
  have K2 : Hid (BlkL w3 (w.heap.size + 2) [.float .f32 0, .float .f32 0, .bool false]) := Lib.hid ((HK2 _ _ _).out.below b3)
  have K2a := fun o => K2.out.alloc o
  clear b3
  have z0 := fun o => ((K2a o).2 0 _ rfl).1
  have z1 := fun o => ((K2a o).2 1 _ rfl).1
  have z2 := fun o => ((K2a o).2 2 _ rfl).1
  have f0 := fun o => ((K2a o).2 0 _ rfl).2
  have f1 := fun o => ((K2a o).2 1 _ rfl).2
  have f2 := fun o => ((K2a o).2 2 _ rfl).2
  go_wp2
  refine bodyPost_ret (v := .agg #[.float .f32 0, .float .f32 0, .bool false]) (by simp [results, Try.results76, go_sem, z0, z1, z2]) rfl ⟨rfl, ?_⟩
  repeat (refine bset ?_ hb2 _ _)
  exact B3.out.alloc B3.out.size _
set_option maxHeartbeats 8000000 in
set_option maxRecDepth 100000 in
theorem i_forceOn (x y z q tip : Nat) (A L D : Option Addr) (ca cl cd : Nat) (a l d : List Nat) (wi sp p dn : Nat) (w : World) (h : Pf w A L D a l d) (hn : Few a l d) (hv : validP a l d = true) (hg : mibG a l d q tip x y z wi sp p = true) :
    Calls Try.prog 76 #[.agg #[.float .f32 x, .float .f32 y, .float .f32 z, .slice A a.length ca, .slice L l.length cl, .slice D d.length cd, .float .f32 q, .float .f32 tip], .agg #[.float .f32 wi, .float .f32 sp, .float .f32 p], .float .f32 dn] w fun e w' => ∃ r t, e = .returned (.agg #[.float .f32 r, .float .f32 t, .bool (fin .f32 (fo1 a l d q tip x y z wi sp p dn) && fin .f32 (fo2 a l d q tip x y z wi sp p dn))]) ∧ canon .f32 r = both1 (fo1 a l d q tip x y z wi sp p dn) (fo2 a l d q tip x y z wi sp p dn) ∧ canon .f32 t = both2 (fo1 a l d q tip x y z wi sp p dn) (fo2 a l d q tip x y z wi sp p dn) ∧ Below w.heap.size w w' := by
  have HB3 : ∀ o1 o2 o3, Hid (Below w.heap.size w (((w.alloc o1).alloc o2).alloc o3)) := fun _ _ _ => Lib.hid ((((Below.refl _ _).alloc (Nat.le_refl _) _).alloc (by simp) _).alloc (by simp; omega) _)
  have HK0 : ∀ t o o', Hid (BlkB (((w.alloc (.cells #[.float .f32 x, .float .f32 y, .float .f32 z, .slice A a.length ca, .slice L l.length cl, .slice D d.length cd, .float .f32 q, .float .f32 tip] t)).alloc o).alloc o') w.heap.size x y z A L D a l d ca cl cd q tip) := fun t o o' => Lib.hid (((blkL_at w #[.float .f32 x, .float .f32 y, .float .f32 z, .slice A a.length ca, .slice L l.length cl, .slice D d.length cd, .float .f32 q, .float .f32 tip] t rfl).alloc o).alloc o')
  have HK1 : ∀ o t o', Hid (BlkL (((w.alloc o).alloc (.cells #[.float .f32 wi, .float .f32 sp, .float .f32 p] t)).alloc o') (w.heap.size + 1) [.float .f32 wi, .float .f32 sp, .float .f32 p]) := fun o t o' => Lib.hid ((blkL_at (w.alloc o) #[.float .f32 wi, .float .f32 sp, .float .f32 p] t (by simp)).alloc o')
  have HK2 : ∀ o o' t, Hid (BlkL (((w.alloc o).alloc o').alloc (.cells #[.float .f32 0, .float .f32 0, .bool false] t)) (w.heap.size + 2) [.float .f32 0, .float .f32 0, .bool false]) := fun o o' t => Lib.hid (blkL_at ((w.alloc o).alloc o') #[.float .f32 0, .float .f32 0, .bool false] t (by simp))
  have hb2 : w.heap.size ≤ w.heap.size + 2 := by omega
  have HP := Lib.hid h; clear h
  have HN := Lib.hid hn; clear hn
  have HV := Lib.hid hv; clear hv
  have HG := Lib.hid hg; clear hg
  go_enter Try.func76, Try.ntmps76
  go_wp2_with fail
  refine (i_mib x y z q tip A L D ca cl cd a l d wi sp p _ (HP.out.below (HB3 _ _ _).out) HN.out HV.out HG.out).mono ?_
  rintro e w3 ⟨r3, r4, r1, r2, rk, rm, rfl, h1, h2, hk, hm, b3⟩
  have H1 := Lib.hid h1
  have H2 := Lib.hid h2
  have H3 := Lib.hid hk
  have H4 := Lib.hid hm
  have B3 : Hid (Below w.heap.size w w3) := Lib.hid (below_of (HB3 _ _ _).out (HB3 _ _ _).out.size b3)
  have K0 : Hid (BlkB w3 w.heap.size x y z A L D a l d ca cl cd q tip) := Lib.hid ((HK0 _ _ _).out.below b3)
  have K1 : Hid (BlkL w3 (w.heap.size + 1) [.float .f32 wi, .float .f32 sp, .float .f32 p]) := Lib.hid ((HK1 _ _ _).out.below b3)
  have K2 : Hid (BlkL w3 (w.heap.size + 2) [.float .f32 0, .float .f32 0, .bool false]) := Lib.hid ((HK2 _ _ _).out.below b3)
  have K0a : Hid (BlkB (w3.alloc (.cells #[.float .f32 r3, .float .f32 r4, .float .f32 r1, .float .f32 r2, .float .f32 rk, .float .f32 rm] 94)) w.heap.size x y z A L D a l d ca cl cd q tip) := Lib.hid (K0.out.alloc _)
  have K1a : Hid (BlkL (w3.alloc (.cells #[.float .f32 r3, .float .f32 r4, .float .f32 r1, .float .f32 r2, .float .f32 rk, .float .f32 rm] 94)) (w.heap.size + 1) [.float .f32 wi, .float .f32 sp, .float .f32 p]) := Lib.hid (K1.out.alloc _)
  have K2a : Hid (BlkL (w3.alloc (.cells #[.float .f32 r3, .float .f32 r4, .float .f32 r1, .float .f32 r2, .float .f32 rk, .float .f32 rm] 94)) (w.heap.size + 2) [.float .f32 0, .float .f32 0, .bool false]) := Lib.hid (K2.out.alloc _)
  have HY : Hid (BlkL (w3.alloc (.cells #[.float .f32 r3, .float .f32 r4, .float .f32 r1, .float .f32 r2, .float .f32 rk, .float .f32 rm] 94)) w3.heap.size [.float .f32 r3, .float .f32 r4, .float .f32 r1, .float .f32 r2, .float .f32 rk, .float .f32 rm]) := Lib.hid (blkL_at w3 #[.float .f32 r3, .float .f32 r4, .float .f32 r1, .float .f32 r2, .float .f32 rk, .float .f32 rm] 94 rfl)
  have BY : Hid (Below w.heap.size w (w3.alloc (.cells #[.float .f32 r3, .float .f32 r4, .float .f32 r1, .float .f32 r2, .float .f32 rk, .float .f32 rm] 94))) := Lib.hid (B3.out.alloc B3.out.size _)
  clear b3 h1 h2 hk hm
  obtain ⟨k0, k1, k2, k3, k4, k5, k6, k7⟩ := K0a.out.limbs
  have c0 := (K1a.out.2 0 _ rfl).1
  have c1 := (K1a.out.2 1 _ rfl).1
  have y2 := (HY.out.2 2 _ rfl).1
  have y3 := (HY.out.2 3 _ rfl).1
  have y4 := (HY.out.2 4 _ rfl).1
  have y5 := (HY.out.2 5 _ rfl).1
  obtain ⟨U, hU⟩ : ∃ U, U = (foU a l d q tip x y z wi sp p) := ⟨_, rfl⟩
  obtain ⟨V, hV⟩ : ∃ V, V = (foV a l d q tip x y z wi sp p) := ⟨_, rfl⟩
  have HQ : Hid (foQ a l d q tip x y z wi sp p dn = fop .mul .f32 (fop .mul .f32 (fop .mul .f32 (canon .f32 1056964608) (canon .f32 dn)) (fop .add .f32 (fop .mul .f32 U U) (fop .mul .f32 V V))) (canon .f32 y)) := Lib.hid (by rw [hU, hV]; rfl)
  have HU : Hid (∀ W1 W2, canon .f32 (fopV .quo .f32 wi (fopV .add .f32 1065353216 rk W1) W2) = U) := Lib.hid (fun W1 W2 => by rw [hU]; exact canonF rfl (canonF rfl H3.out))
  have HVV : Hid (∀ W1 W2 W3, canon .f32 (fopV .quo .f32 (fopV .mul .f32 sp x W1) (fopV .sub .f32 1065353216 rm W2) W3) = V) := Lib.hid (fun W1 W2 W3 => by rw [hV]; exact canonF (canonF rfl rfl) (canonF rfl H4.out))
  clear hU hV
  go_wp2_with fail
  have hu := HU.out (w3.alloc (.cells #[.float .f32 r3, .float .f32 r4, .float .f32 r1, .float .f32 r2, .float .f32 rk, .float .f32 rm] 94)) ((w3.alloc (.cells #[.float .f32 r3, .float .f32 r4, .float .f32 r1, .float .f32 r2, .float .f32 rk, .float .f32 rm] 94)).drewN (fopN .add .f32 1065353216 rk))
  have hv := HVV.out ((w3.alloc (.cells #[.float .f32 r3, .float .f32 r4, .float .f32 r1, .float .f32 r2, .float .f32 rk, .float .f32 rm] 94)).drewN ((fopN .add .f32 1065353216 rk) + (fopN .quo .f32 wi (fopV .add .f32 1065353216 rk (w3.alloc (.cells #[.float .f32 r3, .float .f32 r4, .float .f32 r1, .float .f32 r2, .float .f32 rk, .float .f32 rm] 94)))))) ((w3.alloc (.cells #[.float .f32 r3, .float .f32 r4, .float .f32 r1, .float .f32 r2, .float .f32 rk, .float .f32 rm] 94)).drewN ((fopN .add .f32 1065353216 rk) + (fopN .quo .f32 wi (fopV .add .f32 1065353216 rk (w3.alloc (.cells #[.float .f32 r3, .float .f32 r4, .float .f32 r1, .float .f32 r2, .float .f32 rk, .float .f32 rm] 94)))) + (fopN .mul .f32 sp x))) ((w3.alloc (.cells #[.float .f32 r3, .float .f32 r4, .float .f32 r1, .float .f32 r2, .float .f32 rk, .float .f32 rm] 94)).drewN ((fopN .add .f32 1065353216 rk) + (fopN .quo .f32 wi (fopV .add .f32 1065353216 rk (w3.alloc (.cells #[.float .f32 r3, .float .f32 r4, .float .f32 r1, .float .f32 r2, .float .f32 rk, .float .f32 rm] 94)))) + (fopN .mul .f32 sp x) + (fopN .sub .f32 1065353216 rm)))
  generalize fopV .quo .f32 (fopV .mul .f32 sp x ((w3.alloc (.cells #[.float .f32 r3, .float .f32 r4, .float .f32 r1, .float .f32 r2, .float .f32 rk, .float .f32 rm] 94)).drewN ((fopN .add .f32 1065353216 rk) + (fopN .quo .f32 wi (fopV .add .f32 1065353216 rk (w3.alloc (.cells #[.float .f32 r3, .float .f32 r4, .float .f32 r1, .float .f32 r2, .float .f32 rk, .float .f32 rm] 94))))))) (fopV .sub .f32 1065353216 rm ((w3.alloc (.cells #[.float .f32 r3, .float .f32 r4, .float .f32 r1, .float .f32 r2, .float .f32 rk, .float .f32 rm] 94)).drewN ((fopN .add .f32 1065353216 rk) + (fopN .quo .f32 wi (fopV .add .f32 1065353216 rk (w3.alloc (.cells #[.float .f32 r3, .float .f32 r4, .float .f32 r1, .float .f32 r2, .float .f32 rk, .float .f32 rm] 94)))) + (fopN .mul .f32 sp x)))) ((w3.alloc (.cells #[.float .f32 r3, .float .f32 r4, .float .f32 r1, .float .f32 r2, .float .f32 rk, .float .f32 rm] 94)).drewN ((fopN .add .f32 1065353216 rk) + (fopN .quo .f32 wi (fopV .add .f32 1065353216 rk (w3.alloc (.cells #[.float .f32 r3, .float .f32 r4, .float .f32 r1, .float .f32 r2, .float .f32 rk, .float .f32 rm] 94)))) + (fopN .mul .f32 sp x) + (fopN .sub .f32 1065353216 rm))) = rv at hv ⊢
  generalize fopV .quo .f32 wi (fopV .add .f32 1065353216 rk (w3.alloc (.cells #[.float .f32 r3, .float .f32 r4, .float .f32 r1, .float .f32 r2, .float .f32 rk, .float .f32 rm] 94))) ((w3.alloc (.cells #[.float .f32 r3, .float .f32 r4, .float .f32 r1, .float .f32 r2, .float .f32 rk, .float .f32 rm] 94)).drewN (fopN .add .f32 1065353216 rk)) = ru at hu ⊢
  have hst : ∀ m, ∃ nn, { ((w3.alloc (.cells #[.float .f32 r3, .float .f32 r4, .float .f32 r1, .float .f32 r2, .float .f32 rk, .float .f32 rm] 94)).drewN m) with drawn := ((w3.alloc (.cells #[.float .f32 r3, .float .f32 r4, .float .f32 r1, .float .f32 r2, .float .f32 rk, .float .f32 rm] 94)).drewN m).drawn + 1 } = (w3.alloc (.cells #[.float .f32 r3, .float .f32 r4, .float .f32 r1, .float .f32 r2, .float .f32 rk, .float .f32 rm] 94)).drewN nn := fun m => ⟨m + 1, rfl⟩
  have hdd : ∀ nn j, ∃ mm, ((w3.alloc (.cells #[.float .f32 r3, .float .f32 r4, .float .f32 r1, .float .f32 r2, .float .f32 rk, .float .f32 rm] 94)).drewN nn).drewN j = (w3.alloc (.cells #[.float .f32 r3, .float .f32 r4, .float .f32 r1, .float .f32 r2, .float .f32 rk, .float .f32 rm] 94)).drewN mm := fun nn j => ⟨nn + j, World.drewN_drewN ..⟩
  refine wp_region_inv (fun q0 v => match q0 with
    | 0 => v = .float .f32 dn
    | 1 => ∃ r, v = .float .f32 r ∧ canon .f32 r = fop .mul .f32 (canon .f32 1056964608) (canon .f32 dn)
    | 2 => v = .float .f32 ru
    | 3 => v = .float .f32 ru
    | 4 => ∃ r, v = .float .f32 r ∧ canon .f32 r = fop .mul .f32 U U
    | 5 => v = .float .f32 rv
    | 6 => v = .float .f32 rv
    | 7 => ∃ r, v = .float .f32 r ∧ canon .f32 r = fop .mul .f32 V V
    | 8 => ∃ r, v = .float .f32 r ∧ canon .f32 r = fop .add .f32 (fop .mul .f32 U U) (fop .mul .f32 V V)
    | 9 => ∃ r, v = .float .f32 r ∧ canon .f32 r = fop .mul .f32 (fop .mul .f32 (canon .f32 1056964608) (canon .f32 dn)) (fop .add .f32 (fop .mul .f32 U U) (fop .mul .f32 V V))
    | 10 => v = .pointer (some ⟨w.heap.size, 0, none⟩)
    | 11 => v = .pointer (some ⟨w.heap.size, 1, none⟩)
    | 12 => v = .float .f32 y
    | 13 => ∃ r, v = .float .f32 r ∧ canon .f32 r = fop .mul .f32 (fop .mul .f32 (fop .mul .f32 (canon .f32 1056964608) (canon .f32 dn)) (fop .add .f32 (fop .mul .f32 U U) (fop .mul .f32 V V))) (canon .f32 y)
    | 14 => ∃ r, v = .float .f32 r ∧ canon .f32 r = fop .mul .f32 (fop .mul .f32 (fop .mul .f32 (canon .f32 1056964608) (canon .f32 dn)) (fop .add .f32 (fop .mul .f32 U U) (fop .mul .f32 V V))) (canon .f32 y)
    | _ => False) (fun _ ww => ∃ nn, ww = (w3.alloc (.cells #[.float .f32 r3, .float .f32 r4, .float .f32 r1, .float .f32 r2, .float .f32 rk, .float .f32 rm] 94)).drewN nn) (by kernel_rfl) (by kernel_rfl) (hst _) ?hop ?hend
  case hop =>
    intro q o hq listed act w3 hI hall
    obtain ⟨nn, rfl⟩ := hI.cls
    rcases q with _ | _ | _ | _ | _ | _ | _ | _ | _ | _ | _ | _ | _ | _ | _ | q
    · simp at hq; subst hq
      have g2 : act.tmps[2]?.getD undef = .float .f32 dn := hI.kept 2 (by kernel_rfl)
      clear hI hall
      unfold Oper.wp
      go_simp
      exact ⟨_, rfl, rfl, ⟨_, rfl⟩⟩
    · simp at hq; subst hq
      have g39 : act.tmps[39]?.getD undef = .float .f32 dn := hI.has 0 39 rfl (hall ⟨0, .data⟩ (by simp) rfl)
      clear hI hall
      unfold Oper.wp
      go_simp
      exact ⟨_, rfl, ⟨_, rfl, canonF rfl rfl⟩, by first | exact ⟨_, rfl⟩ | exact hdd _ _⟩
    · simp at hq; subst hq
      have g9 : act.tmps[9]?.getD undef = .float .f32 ru := hI.kept 9 (by kernel_rfl)
      clear hI hall
      unfold Oper.wp
      go_simp
      exact ⟨_, rfl, rfl, ⟨_, rfl⟩⟩
    · simp at hq; subst hq
      have g9 : act.tmps[9]?.getD undef = .float .f32 ru := hI.kept 9 (by kernel_rfl)
      clear hI hall
      unfold Oper.wp
      go_simp
      exact ⟨_, rfl, rfl, ⟨_, rfl⟩⟩
    · simp at hq; subst hq
      have g41 : act.tmps[41]?.getD undef = .float .f32 ru := hI.has 2 41 rfl (hall ⟨2, .data⟩ (by simp) rfl)
      have g42 : act.tmps[42]?.getD undef = .float .f32 ru := hI.has 3 42 rfl (hall ⟨3, .data⟩ (by simp) rfl)
      clear hI hall
      unfold Oper.wp
      go_simp
      refine (i_mulNumbers _ _ _).mono ?_
      rintro e w4 ⟨rfl, rfl⟩
      exact ⟨_, rfl, ⟨_, rfl, canonF hu hu⟩, by first | exact ⟨_, rfl⟩ | exact hdd _ _⟩
    · simp at hq; subst hq
      have g10 : act.tmps[10]?.getD undef = .float .f32 rv := hI.kept 10 (by kernel_rfl)
      clear hI hall
      unfold Oper.wp
      go_simp
      exact ⟨_, rfl, rfl, ⟨_, rfl⟩⟩
    · simp at hq; subst hq
      have g10 : act.tmps[10]?.getD undef = .float .f32 rv := hI.kept 10 (by kernel_rfl)
      clear hI hall
      unfold Oper.wp
      go_simp
      exact ⟨_, rfl, rfl, ⟨_, rfl⟩⟩
    · simp at hq; subst hq
      have g44 : act.tmps[44]?.getD undef = .float .f32 rv := hI.has 5 44 rfl (hall ⟨5, .data⟩ (by simp) rfl)
      have g45 : act.tmps[45]?.getD undef = .float .f32 rv := hI.has 6 45 rfl (hall ⟨6, .data⟩ (by simp) rfl)
      clear hI hall
      unfold Oper.wp
      go_simp
      refine (i_mulNumbers _ _ _).mono ?_
      rintro e w4 ⟨rfl, rfl⟩
      exact ⟨_, rfl, ⟨_, rfl, canonF hv hv⟩, by first | exact ⟨_, rfl⟩ | exact hdd _ _⟩
    · simp at hq; subst hq
      obtain ⟨r4, g43, h4a⟩ := hI.has 4 43 rfl (hall ⟨4, .data⟩ (by simp) rfl)
      obtain ⟨r7, g46, h7a⟩ := hI.has 7 46 rfl (hall ⟨7, .data⟩ (by simp) rfl)
      clear hI hall
      unfold Oper.wp
      go_simp
      exact ⟨_, rfl, ⟨_, rfl, canonF h4a h7a⟩, by first | exact ⟨_, rfl⟩ | exact hdd _ _⟩
    · simp at hq; subst hq
      obtain ⟨r1, g40, h1a⟩ := hI.has 1 40 rfl (hall ⟨1, .data⟩ (by simp) rfl)
      obtain ⟨r8, g47, h8a⟩ := hI.has 8 47 rfl (hall ⟨8, .data⟩ (by simp) rfl)
      clear hI hall
      unfold Oper.wp
      go_simp
      exact ⟨_, rfl, ⟨_, rfl, canonF h1a h8a⟩, by first | exact ⟨_, rfl⟩ | exact hdd _ _⟩
    · simp at hq; subst hq
      have g3 : act.tmps[3]?.getD undef = .pointer (some ⟨w.heap.size, 0, none⟩) := hI.kept 3 (by kernel_rfl)
      clear hI hall
      unfold Oper.wp
      go_simp
      exact ⟨_, rfl, rfl, ⟨_, rfl⟩⟩
    · simp at hq; subst hq
      have g49 : act.tmps[49]?.getD undef = .pointer (some ⟨w.heap.size, 0, none⟩) := hI.has 10 49 rfl (hall ⟨10, .data⟩ (by simp) rfl)
      clear hI hall
      unfold Oper.wp
      go_simp
      exact ⟨_, rfl, rfl, ⟨_, rfl⟩⟩
    · simp at hq; subst hq
      have g50 : act.tmps[50]?.getD undef = .pointer (some ⟨w.heap.size, 1, none⟩) := hI.has 11 50 rfl (hall ⟨11, .data⟩ (by simp) rfl)
      clear hI hall
      unfold Oper.wp
      go_simp
      exact ⟨_, rfl, rfl, ⟨_, rfl⟩⟩
    · simp at hq; subst hq
      obtain ⟨r9, g48, h9a⟩ := hI.has 9 48 rfl (hall ⟨9, .data⟩ (by simp) rfl)
      have g51 : act.tmps[51]?.getD undef = .float .f32 y := hI.has 12 51 rfl (hall ⟨12, .data⟩ (by simp) rfl)
      clear hI hall
      unfold Oper.wp
      go_simp
      exact ⟨_, rfl, ⟨_, rfl, canonF h9a rfl⟩, by first | exact ⟨_, rfl⟩ | exact hdd _ _⟩
    · simp at hq; subst hq
      obtain ⟨r13, g52, h13a⟩ := hI.has 13 52 rfl (hall ⟨13, .data⟩ (by simp) rfl)
      clear hI hall
      unfold Oper.wp
      go_simp
      exact ⟨_, rfl, ⟨_, rfl, h13a⟩, ⟨_, rfl⟩⟩
    · simp at hq
  case hend =>
    intro listed act w3 hI hall
    obtain ⟨nn, rfl⟩ := hI.cls
    obtain ⟨rq, g11, hrq⟩ := hI.has 14 11 rfl (hall 14 (by decide))
    have g7 : act.tmps[7]?.getD undef = .pointer (some ⟨w3.heap.size, 0, none⟩) := hI.kept 7 (by kernel_rfl)
    have g6 : act.tmps[6]?.getD undef = .pointer (some ⟨w.heap.size + 2, 0, none⟩) := hI.kept 6 (by kernel_rfl)
    have hd := hI.defers
    have hsz : act.tmps.size = 70 := hI.size.trans (by kernel_rfl)
    have g7' : act.tmps[7]'(by omega) = .pointer (some ⟨w3.heap.size, 0, none⟩) := by rw [← g7, Array.getElem?_eq_getElem (by omega)]; rfl
    have g6' : act.tmps[6]'(by omega) = .pointer (some ⟨w.heap.size + 2, 0, none⟩) := by rw [← g6, Array.getElem?_eq_getElem (by omega)]; rfl
    have g11' : act.tmps[11]'(by omega) = .float .f32 rq := by rw [← g11, Array.getElem?_eq_getElem (by omega)]; rfl
    clear hI hall
    have z0 := (K2a.out.2 0 _ rfl).1
    have z1 := (K2a.out.2 1 _ rfl).1
    have z2 := (K2a.out.2 2 _ rfl).1
    have f0 := (K2a.out.2 0 _ rfl).2
    have f1 := (K2a.out.2 1 _ rfl).2
    have f2 := (K2a.out.2 2 _ rfl).2
    go_wp2_with fail
    refine (i_bothFinite _ _ (fo1 a l d q tip x y z wi sp p dn) (fo2 a l d q tip x y z wi sp p dn) _ (canonF (hrq.trans HQ.out.symm) H1.out) (canonF (hrq.trans HQ.out.symm) H2.out)).mono ?_
    rintro e w' ⟨ra, rb, mb, rfl, ha, hb, rfl⟩
    have QA := Lib.hid ha
    have QB := Lib.hid hb
    clear ha hb
    go_wp2
    refine bodyPost_ret (v := .agg #[.float .f32 ra, .float .f32 rb, .bool (fin .f32 (fo1 a l d q tip x y z wi sp p dn) && fin .f32 (fo2 a l d q tip x y z wi sp p dn))]) (by simp [results, Try.results76, g6, z0, z1, z2, go_sem]) (by first | rfl | exact hd) ⟨ra, rb, rfl, QA.out, QB.out, ?_⟩
    repeat (refine bset ?_ hb2 _ _)
    first | exact below_draws BY.out _ | exact below_draws (below_draws BY.out _) _ | exact below_draws (below_draws (below_draws BY.out _) _) _
end Go.Proofs.Ytigfonnlhiedhaa
