/- Blades. No statement is proved here. -/
import Derived.Test.YtigfonnlhiedhaaSol
import Derived.Test.YtigfonnlhiedhaaSinW
namespace Go.Proofs.Ytigfonnlhiedhaa
open Go Go.RowKit
def flowB (x : Nat) : Bool := within x 981668463 1048508891
def sinC (x : Nat) : Nat := canon .f32 (sinT (canon .f32 x))
def tshC (a l d s : List Nat) (n : Nat) (c : Int) (hub tip : Nat) (i : Int) (x : Nat) : Bool := statR a l d s n c hub tip i && flowB x
def tshV (s : List Nat) (c : Int) (tip k x : Nat) : Nat := tipV s c tip k (sinC x)
def tshO (a l d s : List Nat) (n : Nat) (c : Int) (hub tip : Nat) (i : Int) (x : Nat) : Bool := tshC a l d s n c hub tip i x && fin .f32 (tshV s c tip i.toNat x)
def tshR (a l d s : List Nat) (n : Nat) (c : Int) (hub tip : Nat) (i : Int) (x : Nat) : Nat := if tshC a l d s n c hub tip i x then onlyN (tshV s c tip i.toNat x) else 0
theorem i_hasStation (A L D S : Option Addr) (ca cl cd n cs : Nat) (c : Int) (hub tip : Nat) (a l d _s : List Nat) (i : Int) (w : World) (_hn : n ≤ 1048576) :
    Calls Try.prog 90 #[.agg #[.slice A a.length ca, .slice L l.length cl, .slice D d.length cd, .slice S n cs, .int .i64 c, .float .f32 hub, .float .f32 tip], .int .i64 i] w fun e w' => e = .returned (.bool (decide (0 ≤ i) && decide (i < n))) ∧ Below w.heap.size w w' := by
  have HB : ∀ o1, Hid (Below w.heap.size w (w.alloc o1)) := fun _ => Lib.hid ((Below.refl _ _).alloc (Nat.le_refl _) _)
  cases h : decide (0 ≤ i)
  all_goals
    go_enter Try.func90, Try.ntmps90
    go_wp2
    go_ret
    exact ⟨by simp_all, (HB _).out⟩
set_option maxHeartbeats 2000000 in
theorem i_bladeOf (A L D S : Option Addr) (ca cl cd n cs : Nat) (c : Int) (hub tip : Nat) (a l d _s : List Nat) (x y z : Nat) (w : World) :
    Calls Try.prog 91 #[.agg #[.slice A a.length ca, .slice L l.length cl, .slice D d.length cd, .slice S n cs, .int .i64 c, .float .f32 hub, .float .f32 tip], .agg #[.float .f32 x, .float .f32 y, .float .f32 z]] w fun e w' => e = .returned (.agg #[.float .f32 x, .float .f32 y, .float .f32 z, .slice A a.length ca, .slice L l.length cl, .slice D d.length cd, .float .f32 (floatOfInt .f32 c), .float .f32 tip]) ∧ Below w.heap.size w w' := by
  go_enter Try.func91, Try.ntmps91
  go_wp2
  refine bodyPost_ret (v := .agg #[.float .f32 x, .float .f32 y, .float .f32 z, .slice A a.length ca, .slice L l.length cl, .slice D d.length cd, .float .f32 (floatOfInt .f32 c), .float .f32 tip]) ?_ rfl ⟨rfl, ?_⟩
  · simp [results, Try.results91, go_sem]
  · exact (((Below.refl _ _).alloc (Nat.le_refl _) _).alloc (by simp) _).alloc (by simp <;> omega) _
theorem bset {W w1 : World} (h : Below W.heap.size W w1) {B : Nat} (hB : W.heap.size ≤ B) (i : Nat) (v : Value) : Below W.heap.size W (w1.setCell ⟨B, i, none⟩ v) := h.setCell (p := ⟨B, i, none⟩) hB v
set_option maxHeartbeats 4000000 in
theorem i_bladeAt_no (A L D S : Option Addr) (ca cl cd n cs : Nat) (c : Int) (hub tip : Nat) (a l d s : List Nat) (i : Int) (w : World) (h : Rt w A L D S a l d s) (hn : FewR a l d s n) (hst : statR a l d s n c hub tip i = false) :
    Calls Try.prog 51 #[.agg #[.slice A a.length ca, .slice L l.length cl, .slice D d.length cd, .slice S n cs, .int .i64 c, .float .f32 hub, .float .f32 tip], .int .i64 i] w fun e w' => e = .returned (.tuple #[.agg #[.float .f32 0, .float .f32 0, .float .f32 0, .slice none 0 0, .slice none 0 0, .slice none 0 0, .float .f32 0, .float .f32 0], .bool false]) ∧ Below w.heap.size w w' := by
  have HB2 : ∀ o1 o2, Hid (Below w.heap.size w ((w.alloc o1).alloc o2)) := fun _ _ => Lib.hid (((Below.refl _ _).alloc (Nat.le_refl _) _).alloc (by simp) _)
  have HR2 : ∀ o1 o2, Hid (Rt ((w.alloc o1).alloc o2) A L D S a l d s) := fun o1 o2 => Lib.hid (h.below (HB2 o1 o2).out)
  have hn2 : n ≤ 1048576 := by have := hn.2; omega
  have HN := Lib.hid hn; clear hn h
  have HK0 : ∀ t o, Hid (Blk7 ((w.alloc (.cells #[.slice A a.length ca, .slice L l.length cl, .slice D d.length cd, .slice S n cs, .int .i64 c, .float .f32 hub, .float .f32 tip] t)).alloc o) w.heap.size A L D S a l d ca cl cd n cs c hub tip) := fun t o => Lib.hid (Blk7.below (blk7_at w A L D S a l d ca cl cd n cs c hub tip t rfl) ((Below.refl _ _).alloc (Nat.le_refl _) _))
  have HK1 : ∀ o t, Hid (BlkL ((w.alloc o).alloc (.cells #[.float .f32 0, .float .f32 0, .float .f32 0, .slice none 0 0, .slice none 0 0, .slice none 0 0, .float .f32 0, .float .f32 0] t)) (w.heap.size + 1) [.float .f32 0, .float .f32 0, .float .f32 0, .slice none 0 0, .slice none 0 0, .slice none 0 0, .float .f32 0, .float .f32 0]) := fun o t => Lib.hid (blkL_at (w.alloc o) #[.float .f32 0, .float .f32 0, .float .f32 0, .slice none 0 0, .slice none 0 0, .slice none 0 0, .float .f32 0, .float .f32 0] t (by simp))
  have hb1 : w.heap.size ≤ w.heap.size + 1 := by omega
  cases v : validR a l d s n c hub tip
  · have V := Lib.hid v; clear v hst
    go_enter Try.func51, Try.ntmps51
    go_wp2_with fail
    refine (i_ValidRotor A L D S ca cl cd n cs c hub tip a l d s _ (HR2 _ _).out HN.out).mono ?_
    rintro e w1 ⟨rfl, b1⟩
    rw [V.out]
    have K1 : Hid (BlkL w1 (w.heap.size + 1) [.float .f32 0, .float .f32 0, .float .f32 0, .slice none 0 0, .slice none 0 0, .slice none 0 0, .float .f32 0, .float .f32 0]) := Lib.hid ((HK1 _ _).out.below b1)
    have B1 : Hid (Below w.heap.size w w1) := Lib.hid (below_of (HB2 _ _).out (HB2 _ _).out.size b1)
    clear b1
    obtain ⟨c0, f0⟩ := K1.out.2 0 _ rfl
    obtain ⟨c1, f1⟩ := K1.out.2 1 _ rfl
    obtain ⟨c2, f2⟩ := K1.out.2 2 _ rfl
    obtain ⟨c3, f3⟩ := K1.out.2 3 _ rfl
    obtain ⟨c4, f4⟩ := K1.out.2 4 _ rfl
    obtain ⟨c5, f5⟩ := K1.out.2 5 _ rfl
    obtain ⟨c6, f6⟩ := K1.out.2 6 _ rfl
    obtain ⟨c7, f7⟩ := K1.out.2 7 _ rfl
    go_wp2
    refine bodyPost_ret (v := .tuple #[.agg #[.float .f32 0, .float .f32 0, .float .f32 0, .slice none 0 0, .slice none 0 0, .slice none 0 0, .float .f32 0, .float .f32 0], .bool false]) (by simp [results, Try.results51, go_sem, c0, c1, c2, c3, c4, c5, c6, c7]) rfl ⟨rfl, ?_⟩
    repeat (refine bset ?_ hb1 _ _)
    exact B1.out
  · have hi : (decide (0 ≤ i) && decide (i < n)) = false := by unfold statR at hst; rw [v] at hst; simpa using hst
    have HI := Lib.hid hi
    have V := Lib.hid v; clear v hst hi
    go_enter Try.func51, Try.ntmps51
    go_wp2_with fail
    refine (i_ValidRotor A L D S ca cl cd n cs c hub tip a l d s _ (HR2 _ _).out HN.out).mono ?_
    rintro e w1 ⟨rfl, b1⟩
    rw [V.out]
    have K0 : Hid (Blk7 w1 w.heap.size A L D S a l d ca cl cd n cs c hub tip) := Lib.hid ((HK0 _ _).out.below b1)
    have K1 : Hid (BlkL w1 (w.heap.size + 1) [.float .f32 0, .float .f32 0, .float .f32 0, .slice none 0 0, .slice none 0 0, .slice none 0 0, .float .f32 0, .float .f32 0]) := Lib.hid ((HK1 _ _).out.below b1)
    have B1 : Hid (Below w.heap.size w w1) := Lib.hid (below_of (HB2 _ _).out (HB2 _ _).out.size b1)
    clear b1
    obtain ⟨k0, k1, k2, k3, k4, k5, k6⟩ := K0.out.limbs
    go_wp2_with fail
    refine (i_hasStation A L D S ca cl cd n cs c hub tip a l d s i _ hn2).mono ?_
    rintro e w2 ⟨rfl, b2⟩
    rw [show (decide (0 ≤ i) && decide (i < (n : Int))) = _ from HI.out]
    have K2 : Hid (BlkL w2 (w.heap.size + 1) [.float .f32 0, .float .f32 0, .float .f32 0, .slice none 0 0, .slice none 0 0, .slice none 0 0, .float .f32 0, .float .f32 0]) := Lib.hid (K1.out.below b2)
    have B2 : Hid (Below w.heap.size w w2) := Lib.hid (below_of B1.out B1.out.size b2)
    clear b2 k0 k1 k2 k3 k4 k5 k6
    obtain ⟨c0, f0⟩ := K2.out.2 0 _ rfl
    obtain ⟨c1, f1⟩ := K2.out.2 1 _ rfl
    obtain ⟨c2, f2⟩ := K2.out.2 2 _ rfl
    obtain ⟨c3, f3⟩ := K2.out.2 3 _ rfl
    obtain ⟨c4, f4⟩ := K2.out.2 4 _ rfl
    obtain ⟨c5, f5⟩ := K2.out.2 5 _ rfl
    obtain ⟨c6, f6⟩ := K2.out.2 6 _ rfl
    obtain ⟨c7, f7⟩ := K2.out.2 7 _ rfl
    go_wp2
    refine bodyPost_ret (v := .tuple #[.agg #[.float .f32 0, .float .f32 0, .float .f32 0, .slice none 0 0, .slice none 0 0, .slice none 0 0, .float .f32 0, .float .f32 0], .bool false]) (by simp [results, Try.results51, go_sem, c0, c1, c2, c3, c4, c5, c6, c7]) rfl ⟨rfl, ?_⟩
    repeat (refine bset ?_ hb1 _ _)
    exact B2.out
set_option maxHeartbeats 4000000 in
theorem i_bladeAt (A L D S : Option Addr) (ca cl cd n cs : Nat) (c : Int) (hub tip : Nat) (a l d s : List Nat) (k : Nat) (w : World) (h : Rt w A L D S a l d s) (hn : FewR a l d s n) (hst : statR a l d s n c hub tip k = true) :
    Calls Try.prog 51 #[.agg #[.slice A a.length ca, .slice L l.length cl, .slice D d.length cd, .slice S n cs, .int .i64 c, .float .f32 hub, .float .f32 tip], .int .i64 k] w fun e w' => e = .returned (.tuple #[.agg #[.float .f32 (rad s k), .float .f32 (chd s k), .float .f32 (twi s k), .slice A a.length ca, .slice L l.length cl, .slice D d.length cd, .float .f32 (floatOfInt .f32 c), .float .f32 tip], .bool true]) ∧ Below w.heap.size w w' := by
  have HB2 : ∀ o1 o2, Hid (Below w.heap.size w ((w.alloc o1).alloc o2)) := fun _ _ => Lib.hid (((Below.refl _ _).alloc (Nat.le_refl _) _).alloc (by simp) _)
  have HR2 : ∀ o1 o2, Hid (Rt ((w.alloc o1).alloc o2) A L D S a l d s) := fun o1 o2 => Lib.hid (h.below (HB2 o1 o2).out)
  have hn2 : n ≤ 1048576 := by have := hn.2; omega
  have hn1 := hn.1
  have HS := Lib.hid h.2
  have HN := Lib.hid hn; clear hn h
  obtain ⟨k', e, hk, hv⟩ := statR_at hst
  obtain rfl : k = k' := by omega
  have HK0 : ∀ t o, Hid (Blk7 ((w.alloc (.cells #[.slice A a.length ca, .slice L l.length cl, .slice D d.length cd, .slice S n cs, .int .i64 c, .float .f32 hub, .float .f32 tip] t)).alloc o) w.heap.size A L D S a l d ca cl cd n cs c hub tip) := fun t o => Lib.hid (Blk7.below (blk7_at w A L D S a l d ca cl cd n cs c hub tip t rfl) ((Below.refl _ _).alloc (Nat.le_refl _) _))
  have HK1 : ∀ o t, Hid (BlkL ((w.alloc o).alloc (.cells #[.float .f32 0, .float .f32 0, .float .f32 0, .slice none 0 0, .slice none 0 0, .slice none 0 0, .float .f32 0, .float .f32 0] t)) (w.heap.size + 1) [.float .f32 0, .float .f32 0, .float .f32 0, .slice none 0 0, .slice none 0 0, .slice none 0 0, .float .f32 0, .float .f32 0]) := fun o t => Lib.hid (blkL_at (w.alloc o) #[.float .f32 0, .float .f32 0, .float .f32 0, .slice none 0 0, .slice none 0 0, .slice none 0 0, .float .f32 0, .float .f32 0] t (by simp))
  have hb1 : w.heap.size ≤ w.heap.size + 1 := by omega
  have HI : Hid ((decide ((0 : Int) ≤ (k : Int)) && decide ((k : Int) < (n : Int))) = true) := Lib.hid (by rw [decide_eq_true (by omega), decide_eq_true (by omega)]; rfl)
  have V := Lib.hid hv; clear hv hst e
  obtain ⟨x, hx⟩ : ∃ x, x = rad s k := ⟨_, rfl⟩
  obtain ⟨y, hy⟩ : ∃ x, x = chd s k := ⟨_, rfl⟩
  obtain ⟨z, hz⟩ : ∃ x, x = twi s k := ⟨_, rfl⟩
  rw [← hx, ← hy, ← hz]
  have HX := Lib.hid hx; clear hx
  have HY := Lib.hid hy; clear hy
  have HZ := Lib.hid hz; clear hz
  go_enter Try.func51, Try.ntmps51
  go_wp2_with fail
  refine (i_ValidRotor A L D S ca cl cd n cs c hub tip a l d s _ (HR2 _ _).out HN.out).mono ?_
  rintro e w1 ⟨rfl, b1⟩
  rw [V.out]
  have K0 : Hid (Blk7 w1 w.heap.size A L D S a l d ca cl cd n cs c hub tip) := Lib.hid ((HK0 _ _).out.below b1)
  have K1 : Hid (BlkL w1 (w.heap.size + 1) [.float .f32 0, .float .f32 0, .float .f32 0, .slice none 0 0, .slice none 0 0, .slice none 0 0, .float .f32 0, .float .f32 0]) := Lib.hid ((HK1 _ _).out.below b1)
  have B1 : Hid (Below w.heap.size w w1) := Lib.hid (below_of (HB2 _ _).out (HB2 _ _).out.size b1)
  clear b1
  obtain ⟨k0, k1, k2, k3, k4, k5, k6⟩ := K0.out.limbs
  go_wp2_with fail
  refine (i_hasStation A L D S ca cl cd n cs c hub tip a l d s k _ hn2).mono ?_
  rintro e w2 ⟨rfl, b2⟩
  rw [show (decide ((0 : Int) ≤ (k : Int)) && decide ((k : Int) < (n : Int))) = _ from HI.out]
  have K0' : Hid (Blk7 w2 w.heap.size A L D S a l d ca cl cd n cs c hub tip) := Lib.hid (K0.out.below b2)
  have K2 : Hid (BlkL w2 (w.heap.size + 1) [.float .f32 0, .float .f32 0, .float .f32 0, .slice none 0 0, .slice none 0 0, .slice none 0 0, .float .f32 0, .float .f32 0]) := Lib.hid (K1.out.below b2)
  have B2 : Hid (Below w.heap.size w w2) := Lib.hid (below_of B1.out B1.out.size b2)
  clear b2 k0 k1 k2 k3 k4 k5 k6
  obtain ⟨k0, k1, k2, k3, k4, k5, k6⟩ := K0'.out.limbs
  have hF := HS.out.below B2.out
  obtain ⟨b, off, rfl, -, hc0⟩ := hF.at_ (k := k * 3) (by omega)
  have hc1 := hF.same rfl (k := k * 3 + 1) (by omega)
  have hc2 := hF.same rfl (k := k * 3 + 2) (by omega)
  rw [← Nat.add_assoc] at hc1 hc2
  clear hF
  rw [show s.getD (k * 3) 0 = x from HX.out.symm] at hc0
  rw [show s.getD (k * 3 + 1) 0 = y from HY.out.symm] at hc1
  rw [show s.getD (k * 3 + 2) 0 = z from HZ.out.symm] at hc2
  have KD : Hid (BlkL w2.drew (w.heap.size + 1) [.float .f32 0, .float .f32 0, .float .f32 0, .slice none 0 0, .slice none 0 0, .slice none 0 0, .float .f32 0, .float .f32 0]) := K2
  have BD : Hid (Below w.heap.size w w2.drew) := Lib.hid B2.out.drew
  go_wp2_with fail
  go_region_with (go_at_call 91; refine (i_bladeOf _ _ _ _ _ _ _ _ _ _ _ _ a l d s x y z _).mono ?_; rintro e w3 ⟨rfl, b3⟩; have B3 : Hid (Below w.heap.size w w3) := Lib.hid (below_of BD.out BD.out.size b3); have K3 : Hid (BlkL w3 (w.heap.size + 1) [.float .f32 0, .float .f32 0, .float .f32 0, .slice none 0 0, .slice none 0 0, .slice none 0 0, .float .f32 0, .float .f32 0]) := Lib.hid (KD.out.below b3); clear b3; obtain ⟨c0, f0⟩ := K3.out.2 0 _ rfl; obtain ⟨c1, f1⟩ := K3.out.2 1 _ rfl; obtain ⟨c2, f2⟩ := K3.out.2 2 _ rfl; obtain ⟨c3, f3⟩ := K3.out.2 3 _ rfl; obtain ⟨c4, f4⟩ := K3.out.2 4 _ rfl; obtain ⟨c5, f5⟩ := K3.out.2 5 _ rfl; obtain ⟨c6, f6⟩ := K3.out.2 6 _ rfl; obtain ⟨c7, f7⟩ := K3.out.2 7 _ rfl)
  all_goals
    go_wp2
    refine bodyPost_ret (v := .tuple #[.agg #[.float .f32 x, .float .f32 y, .float .f32 z, .slice A a.length ca, .slice L l.length cl, .slice D d.length cd, .float .f32 (floatOfInt .f32 c), .float .f32 tip], .bool true]) (by simp [results, Try.results51, go_sem, c0, c1, c2, c3, c4, c5, c6, c7]) rfl ⟨rfl, ?_⟩
    repeat (refine bset ?_ hb1 _ _)
    exact B3.out
end Go.Proofs.Ytigfonnlhiedhaa
