/- BalanceOf: the program's side. No statement is proved here. -/
import Derived.Test.YtahbcpjipomcgaaGreatMeet
namespace Go.Proofs.YtahbcpjipomcgaaGreat
open Go Go.RowKit
/-- how far a flow is from its balance -/
def balZ (a l d : List Nat) (q tip x y z f wi sp p : Nat) : Nat := fop .sub .f32 (fop .mul .f32 (sinC f) (fop .add .f32 (canon .f32 1065353216) (kB a l d q tip x y z f p))) (fop .mul .f32 (fop .mul .f32 (fop .quo .f32 (canon .f32 wi) (fop .mul .f32 (canon .f32 sp) (canon .f32 x))) (cosC f)) (fop .sub .f32 (canon .f32 1065353216) (mB a l d q tip x y z f p)))
theorem bal_not {a l d : List Nat} {q tip x y z f wi sp p : Nat} (ha : fin .f32 (angZ z f p) = true) (h : puG a l d z f p = false) : fin .f32 (balZ a l d q tip x y z f wi sp p) = false := by
  unfold puG at h
  rw [ha, Bool.true_and] at h
  unfold balZ kB mB
  cases h1 : fin .f32 (pusN a l d z f p)
  · exact subL_not_fin (mulR_not_fin (addR_not_fin (quoL_not_fin (mulR_not_fin h1))))
  · rw [h1, Bool.true_and] at h
    exact subR_not_fin (mulR_not_fin (subR_not_fin (quoL_not_fin (mulR_not_fin h))))
def balG (a l d : List Nat) (q tip x y z f wi sp p : Nat) : Bool := puG a l d z f p && fin .f32 (balZ a l d q tip x y z f wi sp p)
def balR (a l d : List Nat) (q tip x y z f wi sp p : Nat) : Nat := if puG a l d z f p then onlyN (balZ a l d q tip x y z f wi sp p) else 0
theorem balG_ang {a l d : List Nat} {q tip x y z f wi sp p : Nat} (ha : fin .f32 (angZ z f p) = true) : balG a l d q tip x y z f wi sp p = fin .f32 (balZ a l d q tip x y z f wi sp p) := by
  unfold balG
  cases h : puG a l d z f p
  · rw [bal_not ha h]; rfl
  · rfl
theorem balR_ang {a l d : List Nat} {q tip x y z f wi sp p : Nat} (ha : fin .f32 (angZ z f p) = true) : balR a l d q tip x y z f wi sp p = onlyN (balZ a l d q tip x y z f wi sp p) := by
  unfold balR
  cases h : puG a l d z f p
  · unfold onlyN; rw [bal_not ha h]; rfl
  · rfl
theorem blkL_below {w w' : World} {B : Nat} {vs : List Value} (h : BlkL w B vs) (hb : Below w.heap.size w w') : BlkL w' B vs := h.below hb
set_option maxHeartbeats 4000000 in
set_option maxRecDepth 100000 in
theorem i_balance (b1 c1 : Nat) (x y z q tip : Nat) (A L D : Option Addr) (ca cl cd : Nat) (a l d : List Nat) (f wi sp p : Nat) (w : World) (h : Pf w A L D a l d) (hn : Few a l d) (hv : validP a l d = true) (hB : BlkB w b1 x y z A L D a l d ca cl cd q tip) (hC : BlkL w c1 [.float .f32 wi, .float .f32 sp, .float .f32 p]) :
    Calls Tryz.prog 111 #[.float .f32 f, .pointer (some ⟨b1, 0, none⟩), .pointer (some ⟨c1, 0, none⟩)] w fun e w' => ∃ r, e = .returned (.tuple #[.float .f32 r, .bool (balG a l d q tip x y z f wi sp p)]) ∧ canon .f32 r = balR a l d q tip x y z f wi sp p ∧ Below w.heap.size w w' := by
  have HB := Lib.hid hB
  have HC := Lib.hid hC
  obtain ⟨k0, k1, k2, k3, k4, k5, k6, k7⟩ := hB.limbs
  have c0 := (hC.2 0 _ rfl).1
  have c1' := (hC.2 1 _ rfl).1
  have c2 := (hC.2 2 _ rfl).1
  clear hB hC
  have HP := Lib.hid h; clear h
  have HV := Lib.hid hv; clear hv
  have HN := Lib.hid hn; clear hn
  cases hg : puG a l d z f p
  · have HG := Lib.hid hg; clear hg
    go_enter Tryz.func111, Tryz.ntmps111
    go_wp2_with fail
    refine (i_meet_no x y z q tip A L D ca cl cd a l d f p _ HP.out HN.out HV.out HG.out).mono ?_
    rintro e w1 ⟨rfl, b1⟩
    have B1 : Hid (Below w.heap.size w w1) := Lib.hid b1
    clear b1
    go_wp2
    refine bodyPost_ret (results_tmp2 rfl _ _ _) rfl ?_
    exact ⟨_, by unfold balG; rw [HG.out]; rfl, by unfold balR; rw [HG.out]; exact canon_zero, B1.out.alloc B1.out.size _⟩
  · have HG := Lib.hid hg; clear hg
    have HZG : Hid (balG a l d q tip x y z f wi sp p = fin .f32 (balZ a l d q tip x y z f wi sp p)) := Lib.hid (by unfold balG; rw [HG.out]; rfl)
    have HZR : Hid (balR a l d q tip x y z f wi sp p = onlyN (balZ a l d q tip x y z f wi sp p)) := Lib.hid (by unfold balR; rw [HG.out]; rfl)
    go_enter Tryz.func111, Tryz.ntmps111
    go_wp2_with fail
    refine (i_meet x y z q tip A L D ca cl cd a l d f p _ HP.out HN.out HV.out HG.out).mono ?_
    rintro e w1 ⟨r3, r4, r1, r2, rk, rm, rfl, hr3, hr4, -, -, hrk, hrm, b1⟩
    have B1 : Hid (Below w.heap.size w w1) := Lib.hid b1
    have R3 := Lib.hid hr3; clear hr3
    have R4 := Lib.hid hr4; clear hr4
    have RK := Lib.hid hrk; clear hrk
    have RM := Lib.hid hrm; clear hrm
    clear b1
    have B1a : ∀ o, Hid (Below w.heap.size w (w1.alloc o)) := fun _ => Lib.hid (B1.out.alloc B1.out.size _)
    have HB1 : ∀ o, Hid (BlkB (w1.alloc o) b1 x y z A L D a l d ca cl cd q tip) := fun _ => Lib.hid (HB.out.below (B1a _).out)
    have HC1 : ∀ o, Hid (BlkL (w1.alloc o) c1 [.float .f32 wi, .float .f32 sp, .float .f32 p]) := fun _ => Lib.hid (HC.out.below (B1a _).out)
    clear k0 k1 k2 k3 k4 k5 k6 k7 c0 c1' c2
    have k0 := fun o => (HB1 o).out.limbs.1
    have c0 := fun o => ((HC1 o).out.2 0 _ rfl).1
    have c1' := fun o => ((HC1 o).out.2 1 _ rfl).1
    have c2 := fun o => ((HC1 o).out.2 2 _ rfl).1
    go_wp2_with fail
    refine (i_mulNumbers _ _ _).mono ?_
    rintro e w' ⟨rfl, rfl⟩
    go_wp2_with fail
    refine (i_mulNumbers _ _ _).mono ?_
    rintro e w' ⟨rfl, rfl⟩
    go_wp2_with fail
    refine (i_onlyFiniteC _ (balZ a l d q tip x y z f wi sp p) _ (canonF (canonF R3.out (canonF rfl RK.out)) (canonF (canonF (canonF rfl (canonF rfl rfl)) R4.out) (canonF rfl RM.out)))).mono ?_
    rintro e w' ⟨r, m, rfl, hr, rfl⟩
    have HRR := Lib.hid hr; clear hr
    go_wp2
    refine bodyPost_ret (results_tmp2 rfl _ _ _) rfl ?_
    exact ⟨_, by rw [HZG.out]; rfl, by rw [HZR.out]; exact HRR.out, by first | exact below_draws (B1a _).out _ | exact below_draws (below_draws (B1a _).out _) _ | exact below_draws (below_draws (below_draws (B1a _).out _) _) _⟩
end Go.Proofs.YtahbcpjipomcgaaGreat
