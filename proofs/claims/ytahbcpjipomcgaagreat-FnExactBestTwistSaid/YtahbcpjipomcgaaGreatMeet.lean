/- How air meets a blade: the program's side. No statement is proved here. -/
import Derived.Test.YtahbcpjipomcgaaGreatPushL
import Derived.Test.YtahbcpjipomcgaaGreatInv2
namespace Go.Proofs.YtahbcpjipomcgaaGreat
open Go Go.RowKit
def solB (q x y : Nat) : Nat := fop .quo .f32 (fop .mul .f32 (canon .f32 q) (canon .f32 y)) (fop .mul .f32 (canon .f32 1086918619) (canon .f32 x))
def tipB (q tip x sine : Nat) : Nat := (fun qq => fop .quo .f32 qq (fop .add .f32 qq sine)) (fop .quo .f32 (fop .mul .f32 (canon .f32 q) (fop .sub .f32 (canon .f32 tip) (canon .f32 x))) (fop .mul .f32 (canon .f32 1073741824) (canon .f32 x)))
def thrB (q tip x f : Nat) : Nat := fop .mul .f32 (fop .mul .f32 (canon .f32 1082130432) (tipB q tip x (sinC f))) (sinC f)
/-- how much air is slowed down, and turned -/
def kB (a l d : List Nat) (q tip x y z f p : Nat) : Nat := fop .quo .f32 (fop .mul .f32 (solB q x y) (pusN a l d z f p)) (fop .mul .f32 (thrB q tip x f) (sinC f))
def mB (a l d : List Nat) (q tip x y z f p : Nat) : Nat := fop .quo .f32 (fop .mul .f32 (solB q x y) (pusT a l d z f p)) (fop .mul .f32 (thrB q tip x f) (cosC f))
theorem BlkB.below {w w' : World} {B x y z : Nat} {A L D : Option Addr} {a l d : List Nat} {ca cl cd q tip : Nat} (h : BlkB w B x y z A L D a l d ca cl cd q tip) (hb : Below w.heap.size w w') : BlkB w' B x y z A L D a l d ca cl cd q tip := BlkL.below h hb
theorem BlkB.other {w : World} {B x y z : Nat} {A L D : Option Addr} {a l d : List Nat} {ca cl cd q tip : Nat} (h : BlkB w B x y z A L D a l d ca cl cd q tip) {p : Addr} (hp : p.block ≠ B) (v : Value) : BlkB (w.setCell p v) B x y z A L D a l d ca cl cd q tip := BlkL.other h hp v
/-- the worlds of the last statement: the blade's block, the result's block -/
def meetC (W : World) (bs bm x y z q tip : Nat) (A L D : Option Addr) (a l d : List Nat) (ca cl cd r1 r2 r3 r4 vk vm : Nat) (listed : Array Bool) (w : World) : Prop :=
  Below W.heap.size W w ∧ BlkB w bs x y z A L D a l d ca cl cd q tip ∧ (listed.getD 21 false = false → BlkL w bm [.float .f32 0, .float .f32 0, .float .f32 0, .float .f32 0, .float .f32 0, .float .f32 0]) ∧
    (listed.getD 21 false = true → ∃ rk rm, BlkL w bm [.float .f32 r3, .float .f32 r4, .float .f32 r1, .float .f32 r2, .float .f32 rk, .float .f32 rm] ∧ canon .f32 rk = vk ∧ canon .f32 rm = vm)
theorem meetC.step {W : World} {bs bm x y z q tip : Nat} {A L D : Option Addr} {a l d : List Nat} {ca cl cd r1 r2 r3 r4 vk vm : Nat} {listed : Array Bool} {i : Nat} {w w' : World} (hlen : listed.size = 23)
    (h : meetC W bs bm x y z q tip A L D a l d ca cl cd r1 r2 r3 r4 vk vm listed w) (hi : i < 23 ∧ i ≠ 21) (hb : Below w.heap.size w w') : meetC W bs bm x y z q tip A L D a l d ca cl cd r1 r2 r3 r4 vk vm (listed.setIfInBounds i true) w' := by
  have e : (listed.setIfInBounds i true).getD 21 false = listed.getD 21 false := by rw [getD_set (by omega), if_neg hi.2]
  refine ⟨below_of h.1 h.1.size hb, h.2.1.below hb, fun hh => ?_, fun hh => ?_⟩
  · rw [e] at hh; exact (h.2.2.1 hh).below hb
  · rw [e] at hh
    obtain ⟨rk, rm, h1, h2, h3⟩ := h.2.2.2 hh
    exact ⟨rk, rm, h1.below hb, h2, h3⟩
set_option maxHeartbeats 4000000 in
set_option maxRecDepth 100000 in
theorem i_meet_no (x y z q tip : Nat) (A L D : Option Addr) (ca cl cd : Nat) (a l d : List Nat) (f p : Nat) (w : World) (h : Pf w A L D a l d) (hn : Few a l d) (hv : validP a l d = true) (hg : puG a l d z f p = false) :
    Calls Tryz.prog 101 #[.agg #[.float .f32 x, .float .f32 y, .float .f32 z, .slice A a.length ca, .slice L l.length cl, .slice D d.length cd, .float .f32 q, .float .f32 tip], .float .f32 f, .float .f32 p] w fun e w' => e = .returned (.tuple #[.agg #[.float .f32 0, .float .f32 0, .float .f32 0, .float .f32 0, .float .f32 0, .float .f32 0], .bool false]) ∧ Below w.heap.size w w' := by
  have HB2 : ∀ o1 o2, Hid (Below w.heap.size w ((w.alloc o1).alloc o2)) := fun _ _ => Lib.hid (((Below.refl _ _).alloc (Nat.le_refl _) _).alloc (by simp) _)
  have HP2 : ∀ o1 o2, Hid (Pf ((w.alloc o1).alloc o2) A L D a l d) := fun o1 o2 => Lib.hid (h.below (HB2 o1 o2).out)
  have HK1 : ∀ o t, Hid (BlkL ((w.alloc o).alloc (.cells #[.float .f32 0, .float .f32 0, .float .f32 0, .float .f32 0, .float .f32 0, .float .f32 0] t)) (w.heap.size + 1) [.float .f32 0, .float .f32 0, .float .f32 0, .float .f32 0, .float .f32 0, .float .f32 0]) := fun o t => Lib.hid (blkL_at (w.alloc o) #[.float .f32 0, .float .f32 0, .float .f32 0, .float .f32 0, .float .f32 0, .float .f32 0] t (by simp))
  have hb1 : w.heap.size ≤ w.heap.size + 1 := by omega
  have HG := Lib.hid hg; clear hg
  go_enter Tryz.func101, Tryz.ntmps101
  go_wp2_with fail
  refine (i_pushes x y z q tip A L D ca cl cd a l d f p _ (HP2 _ _).out hn hv).mono ?_
  rintro e w1 ⟨r1, t1, rfl, -, -, b1⟩
  rw [HG.out]
  have K1 : Hid (BlkL w1 (w.heap.size + 1) [.float .f32 0, .float .f32 0, .float .f32 0, .float .f32 0, .float .f32 0, .float .f32 0]) := Lib.hid ((HK1 _ _).out.below b1)
  have B1 : Hid (Below w.heap.size w w1) := Lib.hid (below_of (HB2 _ _).out (HB2 _ _).out.size b1)
  clear b1
  obtain ⟨c0, f0⟩ := K1.out.2 0 _ rfl
  obtain ⟨c1, f1⟩ := K1.out.2 1 _ rfl
  obtain ⟨c2, f2⟩ := K1.out.2 2 _ rfl
  obtain ⟨c3, f3⟩ := K1.out.2 3 _ rfl
  obtain ⟨c4, f4⟩ := K1.out.2 4 _ rfl
  obtain ⟨c5, f5⟩ := K1.out.2 5 _ rfl
  go_wp2
  refine bodyPost_ret (v := .tuple #[.agg #[.float .f32 0, .float .f32 0, .float .f32 0, .float .f32 0, .float .f32 0, .float .f32 0], .bool false]) (by simp [results, Tryz.results101, go_sem, c0, c1, c2, c3, c4, c5]) rfl ⟨rfl, ?_⟩
  repeat (refine bset ?_ hb1 _ _)
  exact B1.out
set_option maxHeartbeats 8000000 in
set_option maxRecDepth 100000 in
theorem i_meet (x y z q tip : Nat) (A L D : Option Addr) (ca cl cd : Nat) (a l d : List Nat) (f p : Nat) (w : World) (h : Pf w A L D a l d) (hn : Few a l d) (hv : validP a l d = true) (hg : puG a l d z f p = true) :
    Calls Tryz.prog 101 #[.agg #[.float .f32 x, .float .f32 y, .float .f32 z, .slice A a.length ca, .slice L l.length cl, .slice D d.length cd, .float .f32 q, .float .f32 tip], .float .f32 f, .float .f32 p] w fun e w' => ∃ r3 r4 r1 r2 rk rm, e = .returned (.tuple #[.agg #[.float .f32 r3, .float .f32 r4, .float .f32 r1, .float .f32 r2, .float .f32 rk, .float .f32 rm], .bool true]) ∧ canon .f32 r3 = sinC f ∧ canon .f32 r4 = cosC f ∧ canon .f32 r1 = pusN a l d z f p ∧ canon .f32 r2 = pusT a l d z f p ∧ canon .f32 rk = kB a l d q tip x y z f p ∧ canon .f32 rm = mB a l d q tip x y z f p ∧ Below w.heap.size w w' := by
  have HB2 : ∀ o1 o2, Hid (Below w.heap.size w ((w.alloc o1).alloc o2)) := fun _ _ => Lib.hid (((Below.refl _ _).alloc (Nat.le_refl _) _).alloc (by simp) _)
  have HP2 : ∀ o1 o2, Hid (Pf ((w.alloc o1).alloc o2) A L D a l d) := fun o1 o2 => Lib.hid (h.below (HB2 o1 o2).out)
  have HK0 : ∀ t o, Hid (BlkB ((w.alloc (.cells #[.float .f32 x, .float .f32 y, .float .f32 z, .slice A a.length ca, .slice L l.length cl, .slice D d.length cd, .float .f32 q, .float .f32 tip] t)).alloc o) w.heap.size x y z A L D a l d ca cl cd q tip) := fun t o => Lib.hid ((blkL_at w #[.float .f32 x, .float .f32 y, .float .f32 z, .slice A a.length ca, .slice L l.length cl, .slice D d.length cd, .float .f32 q, .float .f32 tip] t rfl).alloc o)
  have HK1 : ∀ o t, Hid (BlkL ((w.alloc o).alloc (.cells #[.float .f32 0, .float .f32 0, .float .f32 0, .float .f32 0, .float .f32 0, .float .f32 0] t)) (w.heap.size + 1) [.float .f32 0, .float .f32 0, .float .f32 0, .float .f32 0, .float .f32 0, .float .f32 0]) := fun o t => Lib.hid (blkL_at (w.alloc o) #[.float .f32 0, .float .f32 0, .float .f32 0, .float .f32 0, .float .f32 0, .float .f32 0] t (by simp))
  have HG := Lib.hid hg; clear hg
  obtain ⟨vn, hvn⟩ : ∃ v, v = pusN a l d z f p := ⟨_, rfl⟩
  obtain ⟨vt, hvt⟩ : ∃ v, v = pusT a l d z f p := ⟨_, rfl⟩
  obtain ⟨vth, hvth⟩ : ∃ v, v = thrB q tip x f := ⟨_, rfl⟩
  obtain ⟨vs, hvs⟩ : ∃ v, v = sinC f := ⟨_, rfl⟩
  obtain ⟨vc, hvc⟩ : ∃ v, v = cosC f := ⟨_, rfl⟩
  have eK : kB a l d q tip x y z f p = fop .quo .f32 (fop .mul .f32 (solB q x y) vn) (fop .mul .f32 vth vs) := by rw [hvn, hvth, hvs]; rfl
  have eM : mB a l d q tip x y z f p = fop .quo .f32 (fop .mul .f32 (solB q x y) vt) (fop .mul .f32 vth vc) := by rw [hvt, hvth, hvc]; rfl
  rw [eK, eM, ← hvn, ← hvt, ← hvs, ← hvc]
  clear eK eM
  have HVN := Lib.hid hvn; clear hvn
  have HVT := Lib.hid hvt; clear hvt
  have HVTH := Lib.hid hvth; clear hvth
  have HVS := Lib.hid hvs; clear hvs
  have HVC := Lib.hid hvc; clear hvc
  go_enter Tryz.func101, Tryz.ntmps101
  go_wp2_with fail
  refine (i_pushes x y z q tip A L D ca cl cd a l d f p _ (HP2 _ _).out hn hv).mono ?_
  rintro e w1 ⟨r1, r2, rfl, h1, h2, b1⟩
  rw [HG.out]
  have H1 : Hid (canon .f32 r1 = vn) := Lib.hid (by rw [h1, HVN.out]; unfold puR1; rw [HG.out]; rfl)
  have H2 : Hid (canon .f32 r2 = vt) := Lib.hid (by rw [h2, HVT.out]; unfold puR2; rw [HG.out]; rfl)
  have K0 : Hid (BlkB w1 w.heap.size x y z A L D a l d ca cl cd q tip) := Lib.hid ((HK0 _ _).out.below b1)
  have K1 : Hid (BlkL w1 (w.heap.size + 1) [.float .f32 0, .float .f32 0, .float .f32 0, .float .f32 0, .float .f32 0, .float .f32 0]) := Lib.hid ((HK1 _ _).out.below b1)
  have B1 : Hid (Below w.heap.size w w1) := Lib.hid (below_of (HB2 _ _).out (HB2 _ _).out.size b1)
  clear b1 h1 h2
  go_wp2_with fail
  refine (i_SineTurns _ _).mono ?_
  rintro e w' ⟨r3, m3, rfl, c3, rfl⟩
  have C3 : Hid (canon .f32 r3 = vs) := Lib.hid (by rw [HVS.out]; exact c3)
  clear c3
  go_wp2_with fail
  refine (i_SineTurns _ _).mono ?_
  rintro e w' ⟨r4, m4, rfl, c4, rfl⟩
  have C4 : Hid (canon .f32 r4 = vc) := Lib.hid (by rw [HVC.out, c4, canonF rfl rfl]; rfl)
  clear c4
  have KD : ∀ m, Hid (BlkB (w1.drewN m) w.heap.size x y z A L D a l d ca cl cd q tip) := fun _ => K0
  obtain ⟨k0, k1, k2, k3, k4, k5, k6, k7⟩ := K0.out.limbs
  go_wp2_with fail
  refine (i_tipShare x y z q tip A L D ca cl cd a l d f _).mono ?_
  rintro e w2 ⟨rt, rfl, hrt, b2⟩
  have K0' : Hid (BlkB w2 w.heap.size x y z A L D a l d ca cl cd q tip) := Lib.hid ((KD _).out.below b2)
  have K1' : Hid (BlkL w2 (w.heap.size + 1) [.float .f32 0, .float .f32 0, .float .f32 0, .float .f32 0, .float .f32 0, .float .f32 0]) := Lib.hid ((K1.out.below (below_draws (Below.refl _ _) _)).below b2)
  have B2 : Hid (Below w.heap.size w w2) := Lib.hid (below_of (below_draws B1.out _) (below_draws B1.out _).size b2)
  have HT : Hid (∀ W1 W2 : World, canon .f32 (fopV .mul .f32 (fopV .mul .f32 1082130432 rt W1) r3 W2) = vth) := Lib.hid (fun W1 W2 => by rw [canonF (canonF rfl hrt) C3.out, HVTH.out, HVS.out]; rfl)
  clear b2 hrt k0 k1 k2 k3 k4 k5 k6 k7
  go_wp2_with fail
  have hr1 := H1.out
  have hr2 := H2.out
  have hr3 := C3.out
  have hr4 := C4.out
  have hth := HT.out (w2) (w2.drewN (fopN .mul .f32 1082130432 rt))
  generalize fopV .mul .f32 (fopV .mul .f32 1082130432 rt w2) r3 (w2.drewN (fopN .mul .f32 1082130432 rt)) = th at hth ⊢
  have hB2 : ∀ m, Below w.heap.size w (w2.drewN m) := fun m => below_draws B2.out m
  have hK0 : ∀ m, BlkB (w2.drewN m) w.heap.size x y z A L D a l d ca cl cd q tip := fun _ => K0'.out
  have hK1 : ∀ m, BlkL (w2.drewN m) (w.heap.size + 1) [.float .f32 0, .float .f32 0, .float .f32 0, .float .f32 0, .float .f32 0, .float .f32 0] := fun _ => K1'.out
  have hbm : w.heap.size ≤ w.heap.size + 1 := by omega
  have hne : w.heap.size + 1 ≠ w.heap.size := by omega
  have hstep := fun (listed : Array Bool) i w3 w4 (hlen : listed.size = 23) hC hi hb => meetC.step (W := w) (bs := w.heap.size) (bm := w.heap.size + 1) (x := x) (y := y) (z := z) (q := q) (tip := tip) (A := A) (L := L) (D := D) (a := a) (l := l) (d := d) (ca := ca) (cl := cl) (cd := cd) (r1 := r1) (r2 := r2) (r3 := r3) (r4 := r4) (vk := fop .quo .f32 (fop .mul .f32 (solB q x y) vn) (fop .mul .f32 vth vs)) (vm := fop .quo .f32 (fop .mul .f32 (solB q x y) vt) (fop .mul .f32 vth vc)) (listed := listed) (i := i) (w := w3) (w' := w4) hlen hC hi hb
  have hst : ∀ X : World, Below w.heap.size w X → BlkB X w.heap.size x y z A L D a l d ca cl cd q tip → BlkL X (w.heap.size + 1) [.float .f32 0, .float .f32 0, .float .f32 0, .float .f32 0, .float .f32 0, .float .f32 0] → meetC w w.heap.size (w.heap.size + 1) x y z q tip A L D a l d ca cl cd r1 r2 r3 r4 (fop .quo .f32 (fop .mul .f32 (solB q x y) vn) (fop .mul .f32 vth vs)) (fop .quo .f32 (fop .mul .f32 (solB q x y) vt) (fop .mul .f32 vth vc)) (Array.replicate 23 false) { X with drawn := X.drawn + 1 } := fun X h1 h2 h3 => ⟨below_draws h1 1, h2, fun _ => h3, fun hh => by simp at hh⟩
  refine wp_region_inv2 (fun q0 v => match q0 with
    | 0 => v = .float .f32 r3
    | 1 => v = .float .f32 r4
    | 2 => v = .float .f32 r1
    | 3 => v = .float .f32 r2
    | 4 => v = .agg #[.float .f32 x, .float .f32 y, .float .f32 z, .slice A a.length ca, .slice L l.length cl, .slice D d.length cd, .float .f32 q, .float .f32 tip]
    | 5 => ∃ r, v = .float .f32 r ∧ canon .f32 r = solB q x y
    | 6 => v = .float .f32 r1
    | 7 => ∃ r, v = .float .f32 r ∧ canon .f32 r = fop .mul .f32 (solB q x y) vn
    | 8 => v = .float .f32 th
    | 9 => v = .float .f32 r3
    | 10 => ∃ r, v = .float .f32 r ∧ canon .f32 r = fop .mul .f32 vth vs
    | 11 => ∃ r, v = .float .f32 r ∧ canon .f32 r = fop .quo .f32 (fop .mul .f32 (solB q x y) vn) (fop .mul .f32 vth vs)
    | 12 => v = .agg #[.float .f32 x, .float .f32 y, .float .f32 z, .slice A a.length ca, .slice L l.length cl, .slice D d.length cd, .float .f32 q, .float .f32 tip]
    | 13 => ∃ r, v = .float .f32 r ∧ canon .f32 r = solB q x y
    | 14 => v = .float .f32 r2
    | 15 => ∃ r, v = .float .f32 r ∧ canon .f32 r = fop .mul .f32 (solB q x y) vt
    | 16 => v = .float .f32 th
    | 17 => v = .float .f32 r4
    | 18 => ∃ r, v = .float .f32 r ∧ canon .f32 r = fop .mul .f32 vth vc
    | 19 => ∃ r, v = .float .f32 r ∧ canon .f32 r = fop .quo .f32 (fop .mul .f32 (solB q x y) vt) (fop .mul .f32 vth vc)
    | 20 => ∃ rk rm, v = .agg #[.float .f32 r3, .float .f32 r4, .float .f32 r1, .float .f32 r2, .float .f32 rk, .float .f32 rm] ∧ canon .f32 rk = fop .quo .f32 (fop .mul .f32 (solB q x y) vn) (fop .mul .f32 vth vs) ∧ canon .f32 rm = fop .quo .f32 (fop .mul .f32 (solB q x y) vt) (fop .mul .f32 vth vc)
    | 21 => True
    | 22 => v = .bool true
    | _ => False) (meetC w w.heap.size (w.heap.size + 1) x y z q tip A L D a l d ca cl cd r1 r2 r3 r4 (fop .quo .f32 (fop .mul .f32 (solB q x y) vn) (fop .mul .f32 vth vs)) (fop .quo .f32 (fop .mul .f32 (solB q x y) vt) (fop .mul .f32 vth vc))) (by kernel_rfl) (by kernel_rfl) (hst _ (by first | exact hB2 _ | exact below_draws (hB2 _) _ | exact below_draws (below_draws (hB2 _) _) _) K0'.out K1'.out) ?hop ?hend
  case hop =>
    intro q o hq listed act w3 hI hnot hall
    have hC := hI.cls
    have hlen : listed.size = 23 := hI.len
    obtain ⟨k0, k1, k2, k3, k4, k5, k6, k7⟩ := hC.2.1.limbs
    rcases q with _ | _ | _ | _ | _ | _ | _ | _ | _ | _ | _ | _ | _ | _ | _ | _ | _ | _ | _ | _ | _ | _ | _ | q
    · simp at hq; subst hq
      have g11 : act.tmps[11]?.getD undef = .float .f32 r3 := hI.kept 11 (by kernel_rfl)
      clear hI hall
      unfold Oper.wp
      go_simp
      exact ⟨_, rfl, rfl, hstep listed 0 w3 w3 hlen hC (by decide) (Below.refl _ _)⟩
    · simp at hq; subst hq
      have g12 : act.tmps[12]?.getD undef = .float .f32 r4 := hI.kept 12 (by kernel_rfl)
      clear hI hall
      unfold Oper.wp
      go_simp
      exact ⟨_, rfl, rfl, hstep listed 1 w3 w3 hlen hC (by decide) (Below.refl _ _)⟩
    · simp at hq; subst hq
      have g8 : act.tmps[8]?.getD undef = .float .f32 r1 := hI.kept 8 (by kernel_rfl)
      clear hI hall
      unfold Oper.wp
      go_simp
      exact ⟨_, rfl, rfl, hstep listed 2 w3 w3 hlen hC (by decide) (Below.refl _ _)⟩
    · simp at hq; subst hq
      have g9 : act.tmps[9]?.getD undef = .float .f32 r2 := hI.kept 9 (by kernel_rfl)
      clear hI hall
      unfold Oper.wp
      go_simp
      exact ⟨_, rfl, rfl, hstep listed 3 w3 w3 hlen hC (by decide) (Below.refl _ _)⟩
    · simp at hq; subst hq
      have g3 : act.tmps[3]?.getD undef = .pointer (some ⟨w.heap.size, 0, none⟩) := hI.kept 3 (by kernel_rfl)
      clear hI hall
      unfold Oper.wp
      go_simp
      exact ⟨_, rfl, rfl, hstep listed 4 w3 w3 hlen hC (by decide) (Below.refl _ _)⟩
    · simp at hq; subst hq
      have g40 : act.tmps[40]?.getD undef = .agg #[.float .f32 x, .float .f32 y, .float .f32 z, .slice A a.length ca, .slice L l.length cl, .slice D d.length cd, .float .f32 q, .float .f32 tip] := hI.has 4 40 rfl (hall ⟨4, .data⟩ (by simp) rfl)
      clear hI hall
      unfold Oper.wp
      go_simp
      refine (i_solidity x y z q tip A L D ca cl cd a l d _).mono ?_
      rintro e w4 ⟨r, rfl, hr, b4⟩
      exact ⟨_, rfl, ⟨_, rfl, hr⟩, hstep listed 5 w3 w4 hlen hC (by decide) b4⟩
    · simp at hq; subst hq
      have g8 : act.tmps[8]?.getD undef = .float .f32 r1 := hI.kept 8 (by kernel_rfl)
      clear hI hall
      unfold Oper.wp
      go_simp
      exact ⟨_, rfl, rfl, hstep listed 6 w3 w3 hlen hC (by decide) (Below.refl _ _)⟩
    · simp at hq; subst hq
      obtain ⟨r5, g41, h5a⟩ := hI.has 5 41 rfl (hall ⟨5, .data⟩ (by simp) rfl)
      have g42 : act.tmps[42]?.getD undef = .float .f32 r1 := hI.has 6 42 rfl (hall ⟨6, .data⟩ (by simp) rfl)
      clear hI hall
      unfold Oper.wp
      go_simp
      exact ⟨_, rfl, ⟨_, rfl, canonF h5a hr1⟩, hstep listed 7 w3 _ hlen hC (by decide) (below_draws (Below.refl _ _) _)⟩
    · simp at hq; subst hq
      have g13 : act.tmps[13]?.getD undef = .float .f32 th := hI.kept 13 (by kernel_rfl)
      clear hI hall
      unfold Oper.wp
      go_simp
      exact ⟨_, rfl, rfl, hstep listed 8 w3 w3 hlen hC (by decide) (Below.refl _ _)⟩
    · simp at hq; subst hq
      have g11 : act.tmps[11]?.getD undef = .float .f32 r3 := hI.kept 11 (by kernel_rfl)
      clear hI hall
      unfold Oper.wp
      go_simp
      exact ⟨_, rfl, rfl, hstep listed 9 w3 w3 hlen hC (by decide) (Below.refl _ _)⟩
    · simp at hq; subst hq
      have g44 : act.tmps[44]?.getD undef = .float .f32 th := hI.has 8 44 rfl (hall ⟨8, .data⟩ (by simp) rfl)
      have g45 : act.tmps[45]?.getD undef = .float .f32 r3 := hI.has 9 45 rfl (hall ⟨9, .data⟩ (by simp) rfl)
      clear hI hall
      unfold Oper.wp
      go_simp
      exact ⟨_, rfl, ⟨_, rfl, canonF hth hr3⟩, hstep listed 10 w3 _ hlen hC (by decide) (below_draws (Below.refl _ _) _)⟩
    · simp at hq; subst hq
      obtain ⟨r7, g43, h7a⟩ := hI.has 7 43 rfl (hall ⟨7, .data⟩ (by simp) rfl)
      obtain ⟨r10, g46, h10a⟩ := hI.has 10 46 rfl (hall ⟨10, .data⟩ (by simp) rfl)
      clear hI hall
      unfold Oper.wp
      go_simp
      exact ⟨_, rfl, ⟨_, rfl, canonF h7a h10a⟩, hstep listed 11 w3 _ hlen hC (by decide) (below_draws (Below.refl _ _) _)⟩
    · simp at hq; subst hq
      have g3 : act.tmps[3]?.getD undef = .pointer (some ⟨w.heap.size, 0, none⟩) := hI.kept 3 (by kernel_rfl)
      clear hI hall
      unfold Oper.wp
      go_simp
      exact ⟨_, rfl, rfl, hstep listed 12 w3 w3 hlen hC (by decide) (Below.refl _ _)⟩
    · simp at hq; subst hq
      have g48 : act.tmps[48]?.getD undef = .agg #[.float .f32 x, .float .f32 y, .float .f32 z, .slice A a.length ca, .slice L l.length cl, .slice D d.length cd, .float .f32 q, .float .f32 tip] := hI.has 12 48 rfl (hall ⟨12, .data⟩ (by simp) rfl)
      clear hI hall
      unfold Oper.wp
      go_simp
      refine (i_solidity x y z q tip A L D ca cl cd a l d _).mono ?_
      rintro e w4 ⟨r, rfl, hr, b4⟩
      exact ⟨_, rfl, ⟨_, rfl, hr⟩, hstep listed 13 w3 w4 hlen hC (by decide) b4⟩
    · simp at hq; subst hq
      have g9 : act.tmps[9]?.getD undef = .float .f32 r2 := hI.kept 9 (by kernel_rfl)
      clear hI hall
      unfold Oper.wp
      go_simp
      exact ⟨_, rfl, rfl, hstep listed 14 w3 w3 hlen hC (by decide) (Below.refl _ _)⟩
    · simp at hq; subst hq
      obtain ⟨r13, g49, h13a⟩ := hI.has 13 49 rfl (hall ⟨13, .data⟩ (by simp) rfl)
      have g50 : act.tmps[50]?.getD undef = .float .f32 r2 := hI.has 14 50 rfl (hall ⟨14, .data⟩ (by simp) rfl)
      clear hI hall
      unfold Oper.wp
      go_simp
      exact ⟨_, rfl, ⟨_, rfl, canonF h13a hr2⟩, hstep listed 15 w3 _ hlen hC (by decide) (below_draws (Below.refl _ _) _)⟩
    · simp at hq; subst hq
      have g13 : act.tmps[13]?.getD undef = .float .f32 th := hI.kept 13 (by kernel_rfl)
      clear hI hall
      unfold Oper.wp
      go_simp
      exact ⟨_, rfl, rfl, hstep listed 16 w3 w3 hlen hC (by decide) (Below.refl _ _)⟩
    · simp at hq; subst hq
      have g12 : act.tmps[12]?.getD undef = .float .f32 r4 := hI.kept 12 (by kernel_rfl)
      clear hI hall
      unfold Oper.wp
      go_simp
      exact ⟨_, rfl, rfl, hstep listed 17 w3 w3 hlen hC (by decide) (Below.refl _ _)⟩
    · simp at hq; subst hq
      have g52 : act.tmps[52]?.getD undef = .float .f32 th := hI.has 16 52 rfl (hall ⟨16, .data⟩ (by simp) rfl)
      have g53 : act.tmps[53]?.getD undef = .float .f32 r4 := hI.has 17 53 rfl (hall ⟨17, .data⟩ (by simp) rfl)
      clear hI hall
      unfold Oper.wp
      go_simp
      exact ⟨_, rfl, ⟨_, rfl, canonF hth hr4⟩, hstep listed 18 w3 _ hlen hC (by decide) (below_draws (Below.refl _ _) _)⟩
    · simp at hq; subst hq
      obtain ⟨r15, g51, h15a⟩ := hI.has 15 51 rfl (hall ⟨15, .data⟩ (by simp) rfl)
      obtain ⟨r18, g54, h18a⟩ := hI.has 18 54 rfl (hall ⟨18, .data⟩ (by simp) rfl)
      clear hI hall
      unfold Oper.wp
      go_simp
      exact ⟨_, rfl, ⟨_, rfl, canonF h15a h18a⟩, hstep listed 19 w3 _ hlen hC (by decide) (below_draws (Below.refl _ _) _)⟩
    · simp at hq; subst hq
      have g36 : act.tmps[36]?.getD undef = .float .f32 r3 := hI.has 0 36 rfl (hall ⟨0, .data⟩ (by simp) rfl)
      have g37 : act.tmps[37]?.getD undef = .float .f32 r4 := hI.has 1 37 rfl (hall ⟨1, .data⟩ (by simp) rfl)
      have g38 : act.tmps[38]?.getD undef = .float .f32 r1 := hI.has 2 38 rfl (hall ⟨2, .data⟩ (by simp) rfl)
      have g39 : act.tmps[39]?.getD undef = .float .f32 r2 := hI.has 3 39 rfl (hall ⟨3, .data⟩ (by simp) rfl)
      obtain ⟨r11, g47, h11a⟩ := hI.has 11 47 rfl (hall ⟨11, .data⟩ (by simp) rfl)
      obtain ⟨r19, g55, h19a⟩ := hI.has 19 55 rfl (hall ⟨19, .data⟩ (by simp) rfl)
      clear hI hall
      unfold Oper.wp
      go_simp
      exact ⟨_, rfl, ⟨_, _, rfl, h11a, h19a⟩, hstep listed 20 w3 w3 hlen hC (by decide) (Below.refl _ _)⟩
    · simp at hq; subst hq
      have g6 : act.tmps[6]?.getD undef = .pointer (some ⟨w.heap.size + 1, 0, none⟩) := hI.kept 6 (by kernel_rfl)
      obtain ⟨rk20, rm20, g56, h20a, h20b⟩ := hI.has 20 56 rfl (hall ⟨20, .data⟩ (by simp) rfl)
      have hZ := hC.2.2.1 hnot
      obtain ⟨c0, f0⟩ := hZ.2 0 _ rfl
      obtain ⟨c1, f1⟩ := hZ.2 1 _ rfl
      obtain ⟨c2, f2⟩ := hZ.2 2 _ rfl
      obtain ⟨c3, f3⟩ := hZ.2 3 _ rfl
      obtain ⟨c4, f4⟩ := hZ.2 4 _ rfl
      obtain ⟨c5, f5⟩ := hZ.2 5 _ rfl
      clear hI hall
      unfold Oper.wp
      go_simp
      have hb := hC.1
      refine ⟨bset (bset (bset (bset (bset (bset hb hbm _ _) hbm _ _) hbm _ _) hbm _ _) hbm _ _) hbm _ _, (((((hC.2.1.other (p := ⟨_, 0, none⟩) hne _).other (p := ⟨_, 1, none⟩) hne _).other (p := ⟨_, 2, none⟩) hne _).other (p := ⟨_, 3, none⟩) hne _).other (p := ⟨_, 4, none⟩) hne _).other (p := ⟨_, 5, none⟩) hne _, ?_, ?_⟩
      · intro hh; rw [getD_set (by rw [hlen]; decide), if_pos rfl] at hh; cases hh
      · intro _; exact ⟨rk20, rm20, (((((hZ.set (i := 0) (by simp) _).set (i := 1) (by simp) _).set (i := 2) (by simp) _).set (i := 3) (by simp) _).set (i := 4) (by simp) _).set (i := 5) (by simp) _, h20a, h20b⟩
    · simp at hq; subst hq
      clear hI hall
      unfold Oper.wp
      go_simp
      exact ⟨_, rfl, rfl, hstep listed 22 w3 w3 hlen hC (by decide) (Below.refl _ _)⟩
    · simp at hq
  case hend =>
    intro listed act w3 hI hall
    have hC := hI.cls
    have hlen : listed.size = 23 := hI.len
    obtain ⟨k0, k1, k2, k3, k4, k5, k6, k7⟩ := hC.2.1.limbs
    obtain ⟨rk, rm, hF, hk, hmm⟩ := hI.cls.2.2.2 (hall 21 (by decide))
    have g7 : act.tmps[7]?.getD undef = .bool true := hI.has 22 7 rfl (hall 22 (by decide))
    have g6 : act.tmps[6]?.getD undef = .pointer (some ⟨w.heap.size + 1, 0, none⟩) := hI.kept 6 (by kernel_rfl)
    have hd := hI.defers
    have hb := hI.cls.1
    clear hI hall hC hstep hlen k0 k1 k2 k3 k4 k5 k6 k7
    have c0 := (hF.2 0 _ rfl).1
    have c1 := (hF.2 1 _ rfl).1
    have c2 := (hF.2 2 _ rfl).1
    have c3 := (hF.2 3 _ rfl).1
    have c4 := (hF.2 4 _ rfl).1
    have c5 := (hF.2 5 _ rfl).1
    go_wp2
    refine bodyPost_ret (v := .tuple #[.agg #[.float .f32 r3, .float .f32 r4, .float .f32 r1, .float .f32 r2, .float .f32 rk, .float .f32 rm], .bool true]) (by simp [results, Tryz.results101, g6, g7, c0, c1, c2, c3, c4, c5, go_sem]) (by first | rfl | exact hd) ⟨r3, r4, r1, r2, rk, rm, rfl, hr3, hr4, hr1, hr2, hk, hmm, hb⟩
end Go.Proofs.YtahbcpjipomcgaaGreat
