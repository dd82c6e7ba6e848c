/- SolidityAt, TipShareAt: the specification's side. No statement is proved here. -/
import Derived.Test.YtigfonnlhiedhaaSolL
namespace Go.Proofs.Ytigfonnlhiedhaa
open Go Go.RowKit
set_option maxHeartbeats 4000000 in
theorem s_SolidityAt (A L D S : Option Addr) (ca cl cd n cs : Nat) (c : Int) (hub tip : Nat) (a l d s : List Nat) (i : Int) (w : World) (h : Rt w A L D S a l d s) (hn : FewR a l d s n) :
    Calls Try.prog 18 #[.agg #[.slice A a.length ca, .slice L l.length cl, .slice D d.length cd, .slice S n cs, .int .i64 c, .float .f32 hub, .float .f32 tip], .int .i64 i] w fun e w' => ∃ r, e = .returned (.tuple #[.float .f32 r, .bool (solO a l d s n c hub tip i)]) ∧ canon .f32 r = solR a l d s n c hub tip i ∧ Below w.heap.size w w' := by
  have HB : ∀ o1, Hid (Below w.heap.size w (w.alloc o1)) := fun _ => Lib.hid ((Below.refl _ _).alloc (Nat.le_refl _) _)
  have HR : ∀ o1, Hid (Rt (w.alloc o1) A L D S a l d s) := fun o1 => Lib.hid (h.below (HB o1).out)
  have hn1 := hn.1
  have hn2 : n ≤ 1048576 := by have := hn.2; omega
  have HN := Lib.hid hn; clear hn h
  have HK : ∀ t, Hid (Blk7 (w.alloc (.cells #[.slice A a.length ca, .slice L l.length cl, .slice D d.length cd, .slice S n cs, .int .i64 c, .float .f32 hub, .float .f32 tip] t)) w.heap.size A L D S a l d ca cl cd n cs c hub tip) := fun t => Lib.hid (blk7_at w A L D S a l d ca cl cd n cs c hub tip t rfl)
  cases hst : statR a l d s n c hub tip i
  · have HST := Lib.hid hst; clear hst
    go_enter Try.func18, Try.ntmps18
    go_wp2_with fail
    refine (s_l03Station A L D S ca cl cd n cs c hub tip a l d s i w.heap.size _ (HR _).out HN.out (HK _).out).mono ?_
    rintro e w1 ⟨rfl, b1⟩
    rw [HST.out]
    have B1 : Hid (Below w.heap.size w w1) := Lib.hid (below_of (HB _).out (HB _).out.size b1)
    clear b1
    go_wp2
    go_ret2
    exact ⟨_, by unfold solO; rw [HST.out]; rfl, by unfold solR; rw [HST.out]; exact canon_zero, B1.out⟩
  · obtain ⟨k, rfl, hk, hv⟩ := statR_at hst
    have HST := Lib.hid hst; clear hst
    have HRA := Lib.hid (rotAt hv hk); clear hv
    go_enter Try.func18, Try.ntmps18
    go_wp2_with fail
    refine (s_l03Station A L D S ca cl cd n cs c hub tip a l d s k w.heap.size _ (HR _).out HN.out (HK _).out).mono ?_
    rintro e w1 ⟨rfl, b1⟩
    rw [HST.out]
    have K1 : Hid (Blk7 w1 w.heap.size A L D S a l d ca cl cd n cs c hub tip) := Lib.hid ((HK _).out.below b1)
    have F1 : Hid (Fl w1 S s) := Lib.hid ((HR _).out.2.below b1)
    have B1 : Hid (Below w.heap.size w w1) := Lib.hid (below_of (HB _).out (HB _).out.size b1)
    clear b1
    go_wp2_with fail
    refine (s_l03Solidity A L D S ca cl cd n cs c hub tip a l d s k w.heap.size _ F1.out hn1 hk hn2 K1.out HRA.out).mono ?_
    rintro e w2 ⟨r2, rfl, h2, b2⟩
    have B2 : Hid (Below w.heap.size w w2) := Lib.hid (below_of B1.out B1.out.size b2)
    have H2 := Lib.hid h2
    clear b2 h2
    go_wp2_with fail
    refine (s_l03NumberC _ (solV s c k) _ H2.out).mono ?_
    rintro e w' ⟨rr, m3, rfl, hr, rfl⟩
    have HRR := Lib.hid hr; clear hr
    go_wp2
    go_ret2
    exact ⟨_, by unfold solO; rw [HST.out]; rfl, by rw [HRR.out]; unfold solR; rw [HST.out]; rfl, below_draws B2.out _⟩
set_option maxHeartbeats 4000000 in
theorem s_TipShareAt (A L D S : Option Addr) (ca cl cd n cs : Nat) (c : Int) (hub tip : Nat) (a l d s : List Nat) (i : Int) (f : Nat) (w : World) (h : Rt w A L D S a l d s) (hn : FewR a l d s n) :
    Calls Try.prog 21 #[.agg #[.slice A a.length ca, .slice L l.length cl, .slice D d.length cd, .slice S n cs, .int .i64 c, .float .f32 hub, .float .f32 tip], .int .i64 i, .float .f32 f] w fun e w' => ∃ r, e = .returned (.tuple #[.float .f32 r, .bool (tshO a l d s n c hub tip i f)]) ∧ canon .f32 r = tshR a l d s n c hub tip i f ∧ Below w.heap.size w w' := by
  have HB : ∀ o1, Hid (Below w.heap.size w (w.alloc o1)) := fun _ => Lib.hid ((Below.refl _ _).alloc (Nat.le_refl _) _)
  have HR : ∀ o1, Hid (Rt (w.alloc o1) A L D S a l d s) := fun o1 => Lib.hid (h.below (HB o1).out)
  have hn1 := hn.1
  have hn2 : n ≤ 1048576 := by have := hn.2; omega
  have HN := Lib.hid hn; clear hn h
  have HK : ∀ t, Hid (Blk7 (w.alloc (.cells #[.slice A a.length ca, .slice L l.length cl, .slice D d.length cd, .slice S n cs, .int .i64 c, .float .f32 hub, .float .f32 tip] t)) w.heap.size A L D S a l d ca cl cd n cs c hub tip) := fun t => Lib.hid (blk7_at w A L D S a l d ca cl cd n cs c hub tip t rfl)
  cases hst : statR a l d s n c hub tip i
  · have HC : Hid (tshC a l d s n c hub tip i f = false) := Lib.hid (by unfold tshC; rw [hst]; rfl)
    have HST := Lib.hid hst; clear hst
    go_enter Try.func21, Try.ntmps21
    go_wp2_with fail
    refine (s_l03Station A L D S ca cl cd n cs c hub tip a l d s i w.heap.size _ (HR _).out HN.out (HK _).out).mono ?_
    rintro e w1 ⟨rfl, b1⟩
    rw [HST.out]
    have B1 : Hid (Below w.heap.size w w1) := Lib.hid (below_of (HB _).out (HB _).out.size b1)
    clear b1
    go_wp2
    go_ret2
    exact ⟨_, by unfold tshO; rw [HC.out]; rfl, by unfold tshR; rw [HC.out]; exact canon_zero, B1.out⟩
  · obtain ⟨k, rfl, hk, hv⟩ := statR_at hst
    have HRA := Lib.hid (rotAt hv hk); clear hv
    cases hf : flowB f
    all_goals
      have HC : Hid (tshC a l d s n c hub tip k f = _) := Lib.hid (by unfold tshC; rw [hst, hf])
      have HST := Lib.hid hst; clear hst
      have HFL := Lib.hid hf; clear hf
      go_enter Try.func21, Try.ntmps21
      go_wp2_with fail
      refine (s_l03Station A L D S ca cl cd n cs c hub tip a l d s k w.heap.size _ (HR _).out HN.out (HK _).out).mono ?_
      rintro e w1 ⟨rfl, b1⟩
      rw [HST.out]
      have K1 : Hid (Blk7 w1 w.heap.size A L D S a l d ca cl cd n cs c hub tip) := Lib.hid ((HK _).out.below b1)
      have F1 : Hid (Fl w1 S s) := Lib.hid ((HR _).out.2.below b1)
      have B1 : Hid (Below w.heap.size w w1) := Lib.hid (below_of (HB _).out (HB _).out.size b1)
      clear b1
      go_wp2_with fail
      refine (s_l03Flow _ _).mono ?_
      rintro e w' ⟨rfl, rfl⟩
      rw [HFL.out]
    · go_wp2
      go_ret2
      exact ⟨_, by unfold tshO; rw [HC.out]; rfl, by unfold tshR; rw [HC.out]; exact canon_zero, B1.out⟩
    · go_wp2_with fail
      refine (s_l01Sine _ _).mono ?_
      rintro e w' ⟨r, m, rfl, hr, rfl⟩
      have HRR : Hid (canon .f32 r = sinC f) := Lib.hid hr
      clear hr
      go_wp2_with fail
      refine (s_l03Tip A L D S ca cl cd n cs c hub tip a l d s k w.heap.size r _ (F1.out.below (below_draws (Below.refl _ _) _)) hn1 hk hn2 (K1.out.below (below_draws (Below.refl _ _) _)) HRA.out).mono ?_
      rintro e w2 ⟨r2, rfl, h2, b2⟩
      have B2 : Hid (Below w.heap.size w w2) := Lib.hid (below_of (below_draws B1.out m) (below_draws B1.out m).size b2)
      have H2 : Hid (canon .f32 r2 = tshV s c tip k f) := Lib.hid (by rw [h2, HRR.out]; rfl)
      clear b2 h2
      go_wp2_with fail
      refine (s_l03NumberC _ (tshV s c tip k f) _ H2.out).mono ?_
      rintro e w' ⟨rr, m3, rfl, hr, rfl⟩
      have HR2 := Lib.hid hr; clear hr
      go_wp2
      go_ret2
      exact ⟨_, by unfold tshO; rw [HC.out]; rfl, by rw [HR2.out]; unfold tshR; rw [HC.out]; rfl, below_draws B2.out _⟩
end Go.Proofs.Ytigfonnlhiedhaa
