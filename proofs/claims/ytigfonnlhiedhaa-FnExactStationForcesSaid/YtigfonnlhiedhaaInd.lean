/- InductionAt: both sides. No statement is proved here. -/
import Derived.Test.YtigfonnlhiedhaaMib
import Derived.Test.YtigfonnlhiedhaaFloS
namespace Go.Proofs.Ytigfonnlhiedhaa
open Go Go.RowKit
def indK (k : Nat) : Nat := fop .quo .f32 k (fop .add .f32 (canon .f32 1065353216) k)
def indM (m : Nat) : Nat := fop .quo .f32 m (fop .sub .f32 (canon .f32 1065353216) m)
theorem ind_not {a l d : List Nat} {q tip x y z f p : Nat} (ha : fin .f32 (angZ z f p) = true) (h : puG a l d z f p = false) : (fin .f32 (indK (kB a l d q tip x y z f p)) && fin .f32 (indM (mB a l d q tip x y z f p))) = false := by
  unfold puG at h
  rw [ha, Bool.true_and] at h
  unfold kB mB indK indM
  cases h1 : fin .f32 (pusN a l d z f p)
  · rw [quoL_not_fin (quoL_not_fin (mulR_not_fin h1))]; rfl
  · rw [h1, Bool.true_and] at h
    rw [Bool.and_comm, quoL_not_fin (quoL_not_fin (mulR_not_fin h))]; rfl
def gK (a l d s : List Nat) (c : Int) (tip k wi sp p : Nat) : Bool := mibG a l d (floatOfInt .f32 c) tip (rad s k) (chd s k) (twi s k) wi sp p
def vK (a l d s : List Nat) (c : Int) (tip k wi sp p : Nat) : Nat := indK (kB a l d (floatOfInt .f32 c) tip (rad s k) (chd s k) (twi s k) (flV (flSt a l d s c tip k wi sp p)) p)
def vM (a l d s : List Nat) (c : Int) (tip k wi sp p : Nat) : Nat := indM (mB a l d (floatOfInt .f32 c) tip (rad s k) (chd s k) (twi s k) (flV (flSt a l d s c tip k wi sp p)) p)
def inO (a l d s : List Nat) (n : Nat) (c : Int) (hub tip : Nat) (i : Int) (wi sp p : Nat) : Bool := floC a l d s n c hub tip i wi sp p && (gK a l d s c tip i.toNat wi sp p && (fin .f32 (vK a l d s c tip i.toNat wi sp p) && fin .f32 (vM a l d s c tip i.toNat wi sp p)))
def in1 (a l d s : List Nat) (n : Nat) (c : Int) (hub tip : Nat) (i : Int) (wi sp p : Nat) : Nat := if floC a l d s n c hub tip i wi sp p && gK a l d s c tip i.toNat wi sp p then both1 (vK a l d s c tip i.toNat wi sp p) (vM a l d s c tip i.toNat wi sp p) else 0
def in2 (a l d s : List Nat) (n : Nat) (c : Int) (hub tip : Nat) (i : Int) (wi sp p : Nat) : Nat := if floC a l d s n c hub tip i wi sp p && gK a l d s c tip i.toNat wi sp p then both2 (vK a l d s c tip i.toNat wi sp p) (vM a l d s c tip i.toNat wi sp p) else 0
theorem in_no {a l d s : List Nat} {n : Nat} {c : Int} {hub tip : Nat} {i : Int} {wi sp p : Nat} (h : (floC a l d s n c hub tip i wi sp p && gK a l d s c tip i.toNat wi sp p) = false) : inO a l d s n c hub tip i wi sp p = false ∧ in1 a l d s n c hub tip i wi sp p = 0 ∧ in2 a l d s n c hub tip i wi sp p = 0 :=
  ⟨by unfold inO; rw [← Bool.and_assoc, h]; rfl, by unfold in1; rw [h]; rfl, by unfold in2; rw [h]; rfl⟩
theorem in_no0 {a l d s : List Nat} {n : Nat} {c : Int} {hub tip : Nat} {i : Int} {wi sp p : Nat} (h : floO a l d s n c hub tip i wi sp p = false) : inO a l d s n c hub tip i wi sp p = false ∧ in1 a l d s n c hub tip i wi sp p = 0 ∧ in2 a l d s n c hub tip i wi sp p = 0 := by
  refine in_no ?_
  unfold floO flSt at h
  unfold gK mibG
  rw [← Bool.and_assoc, h]; rfl
theorem in_yes {a l d s : List Nat} {n : Nat} {c : Int} {hub tip : Nat} {k : Nat} {wi sp p : Nat} (hc : canB a l d s n c hub tip k wi sp p = true) (hs : (flSt a l d s c tip k wi sp p).isSome = true) :
    fin .f32 (angZ (twi s k) (flV (flSt a l d s c tip k wi sp p)) p) = true ∧ inO a l d s n c hub tip k wi sp p = (fin .f32 (vK a l d s c tip k wi sp p) && fin .f32 (vM a l d s c tip k wi sp p)) ∧ in1 a l d s n c hub tip k wi sp p = both1 (vK a l d s c tip k wi sp p) (vM a l d s c tip k wi sp p) ∧ in2 a l d s n c hub tip k wi sp p = both2 (vK a l d s c tip k wi sp p) (vM a l d s c tip k wi sp p) := by
  obtain ⟨hp, ha, e1, -⟩ := flow_can_yes hc
  unfold canB at hc
  rw [Bool.and_eq_true, Bool.and_eq_true] at hc
  obtain ⟨hst, hco, -⟩ := hc
  obtain ⟨k', e0, hk, hv⟩ := statR_at hst
  obtain rfl : k = k' := by omega
  have hr := rotAt hv hk
  have hfc : floC a l d s n c hub tip k wi sp p = true := by unfold floC; rw [hst, hco]; rfl
  have hbd : Bd .f32 0 (flV (flSt a l d s c tip k wi sp p)) := by
    cases hq : flSt a l d s c tip k wi sp p with
    | none => rw [hq] at hs; cases hs
    | some e => obtain ⟨u, v⟩ := e; unfold flSt at hq; exact (flowS_bd 24 u v hq).1
  rw [ang_flow bd_c1 hbd hr.twi hp] at ha
  refine ⟨ha, ?_⟩
  have hg : gK a l d s c tip k wi sp p = puG a l d (twi s k) (flV (flSt a l d s c tip k wi sp p)) p := by unfold flSt at hs ⊢; unfold gK mibG; rw [hs, Bool.true_and]
  unfold inO in1 in2
  rw [show ((k : Int).toNat) = k from rfl, hfc, hg, Bool.true_and, Bool.true_and]
  cases hx : puG a l d (twi s k) (flV (flSt a l d s c tip k wi sp p)) p
  · have hn : (fin .f32 (vK a l d s c tip k wi sp p) && fin .f32 (vM a l d s c tip k wi sp p)) = false := ind_not ha hx
    unfold both1 both2
    rw [hn]; exact ⟨rfl, rfl, rfl⟩
  · exact ⟨by simp only [Bool.true_and], by simp only [if_true], by simp only [if_true]⟩
set_option maxHeartbeats 4000000 in
set_option maxRecDepth 100000 in
theorem i_InductionAt (A L D S : Option Addr) (ca cl cd n cs : Nat) (c : Int) (hub tip : Nat) (a l d s : List Nat) (i : Int) (wi sp p : Nat) (w : World) (h : Rt w A L D S a l d s) (hn : FewR a l d s n) :
    Calls Try.prog 34 #[.agg #[.slice A a.length ca, .slice L l.length cl, .slice D d.length cd, .slice S n cs, .int .i64 c, .float .f32 hub, .float .f32 tip], .int .i64 i, .float .f32 wi, .float .f32 sp, .float .f32 p] w fun e w' => ∃ r t, e = .returned (.tuple #[.float .f32 r, .float .f32 t, .bool (inO a l d s n c hub tip i wi sp p)]) ∧ canon .f32 r = in1 a l d s n c hub tip i wi sp p ∧ canon .f32 t = in2 a l d s n c hub tip i wi sp p ∧ Below w.heap.size w w' := by
  have HB : ∀ o1, Hid (Below w.heap.size w (w.alloc o1)) := fun _ => Lib.hid ((Below.refl _ _).alloc (Nat.le_refl _) _)
  have HR : ∀ o1, Hid (Rt (w.alloc o1) A L D S a l d s) := fun o1 => Lib.hid (h.below (HB o1).out)
  have HN := Lib.hid hn; clear hn
  have HP := Lib.hid h.1; clear h
  cases hst : statR a l d s n c hub tip i
  · obtain ⟨e0, e1, e2⟩ := in_no (a := a) (l := l) (d := d) (s := s) (n := n) (c := c) (hub := hub) (tip := tip) (i := i) (wi := wi) (sp := sp) (p := p) (by unfold floC; rw [hst]; rfl)
    have HST := Lib.hid hst; clear hst
    have E0 := Lib.hid e0; have E1 := Lib.hid e1; have E2 := Lib.hid e2; clear e0 e1 e2
    go_enter Try.func34, Try.ntmps34
    go_wp2_with fail
    refine (i_bladeAt_no A L D S ca cl cd n cs c hub tip a l d s i _ (HR _).out HN.out HST.out).mono ?_
    rintro e w1 ⟨rfl, b1⟩
    have B1 : Hid (Below w.heap.size w w1) := Lib.hid (below_of (HB _).out (HB _).out.size b1)
    have B1a : ∀ o1 o2, Hid (Below w.heap.size w ((w1.alloc o1).alloc o2)) := fun _ _ => Lib.hid ((B1.out.alloc B1.out.size _).alloc (B1.out.alloc B1.out.size _).size _)
    clear b1
    go_wp2
    refine bodyPost_ret (results_tmp3 rfl _ _ _) rfl ?_
    exact ⟨_, _, by rw [E0.out]; rfl, by rw [E1.out]; exact canon_zero, by rw [E2.out]; exact canon_zero, (B1a _ _).out⟩
  · obtain ⟨k, rfl, -, hv⟩ := statR_at hst
    have HV : Hid (validP a l d = true) := Lib.hid (by unfold validR at hv; rw [Bool.and_eq_true] at hv; exact hv.1)
    clear hv
    cases hc : couB wi sp p
    · obtain ⟨e0, e1, e2⟩ := in_no (a := a) (l := l) (d := d) (s := s) (n := n) (c := c) (hub := hub) (tip := tip) (i := k) (wi := wi) (sp := sp) (p := p) (by unfold floC; rw [hc]; simp)
      have HST := Lib.hid hst; clear hst
      have HCO := Lib.hid hc; clear hc
      have E0 := Lib.hid e0; have E1 := Lib.hid e1; have E2 := Lib.hid e2; clear e0 e1 e2
      go_enter Try.func34, Try.ntmps34
      go_wp2_with fail
      refine (i_bladeAt A L D S ca cl cd n cs c hub tip a l d s k _ (HR _).out HN.out HST.out).mono ?_
      rintro e w1 ⟨rfl, b1⟩
      have B1 : Hid (Below w.heap.size w w1) := Lib.hid (below_of (HB _).out (HB _).out.size b1)
      have B1a : ∀ o1 o2, Hid (Below w.heap.size w ((w1.alloc o1).alloc o2)) := fun _ _ => Lib.hid ((B1.out.alloc B1.out.size _).alloc (B1.out.alloc B1.out.size _).size _)
      have HX : ∀ t o, Hid (BlkL ((w1.alloc (.cells #[.float .f32 (rad s k), .float .f32 (chd s k), .float .f32 (twi s k), .slice A a.length ca, .slice L l.length cl, .slice D d.length cd, .float .f32 (floatOfInt .f32 c), .float .f32 tip] t)).alloc o) w1.heap.size [.float .f32 (rad s k), .float .f32 (chd s k), .float .f32 (twi s k), .slice A a.length ca, .slice L l.length cl, .slice D d.length cd, .float .f32 (floatOfInt .f32 c), .float .f32 tip]) := fun t o => Lib.hid ((blkL_at w1 #[.float .f32 (rad s k), .float .f32 (chd s k), .float .f32 (twi s k), .slice A a.length ca, .slice L l.length cl, .slice D d.length cd, .float .f32 (floatOfInt .f32 c), .float .f32 tip] t rfl).alloc o)
      have HY : ∀ o t, Hid (BlkL ((w1.alloc o).alloc (.cells #[.float .f32 wi, .float .f32 sp, .float .f32 p] t)) (w1.heap.size + 1) [.float .f32 wi, .float .f32 sp, .float .f32 p]) := fun o t => Lib.hid (blkL_at (w1.alloc o) #[.float .f32 wi, .float .f32 sp, .float .f32 p] t (by simp))
      clear b1
      go_wp2_with fail
      refine (i_isCourse _ _ _ _).mono ?_
      rintro e w2 ⟨rfl, b2⟩
      rw [HCO.out]
      have B2 : Hid (Below w.heap.size w w2) := Lib.hid (below_of (B1a _ _).out (B1a _ _).out.size b2)
      have HX2 := Lib.hid (((HX _ _).out).below b2)
      have HY2 := Lib.hid (((HY _ _).out).below b2)
      clear b2
      go_wp2
      refine bodyPost_ret (results_tmp3 rfl _ _ _) rfl ?_
      exact ⟨_, _, by rw [E0.out]; rfl, by rw [E1.out]; exact canon_zero, by rw [E2.out]; exact canon_zero, B2.out⟩
    · cases hg : gK a l d s c tip k wi sp p
      · obtain ⟨e0, e1, e2⟩ := in_no (a := a) (l := l) (d := d) (s := s) (n := n) (c := c) (hub := hub) (tip := tip) (i := k) (wi := wi) (sp := sp) (p := p) (by rw [show ((k : Int).toNat) = k from rfl, hg]; simp)
        have HST := Lib.hid hst; clear hst
        have HCO := Lib.hid hc; clear hc
        have HG : Hid (mibG a l d (floatOfInt .f32 c) tip (rad s k) (chd s k) (twi s k) wi sp p = false) := Lib.hid hg; clear hg
        have E0 := Lib.hid e0; have E1 := Lib.hid e1; have E2 := Lib.hid e2; clear e0 e1 e2
        go_enter Try.func34, Try.ntmps34
        go_wp2_with fail
        refine (i_bladeAt A L D S ca cl cd n cs c hub tip a l d s k _ (HR _).out HN.out HST.out).mono ?_
        rintro e w1 ⟨rfl, b1⟩
        have B1 : Hid (Below w.heap.size w w1) := Lib.hid (below_of (HB _).out (HB _).out.size b1)
        have B1a : ∀ o1 o2, Hid (Below w.heap.size w ((w1.alloc o1).alloc o2)) := fun _ _ => Lib.hid ((B1.out.alloc B1.out.size _).alloc (B1.out.alloc B1.out.size _).size _)
        have HX : ∀ t o, Hid (BlkL ((w1.alloc (.cells #[.float .f32 (rad s k), .float .f32 (chd s k), .float .f32 (twi s k), .slice A a.length ca, .slice L l.length cl, .slice D d.length cd, .float .f32 (floatOfInt .f32 c), .float .f32 tip] t)).alloc o) w1.heap.size [.float .f32 (rad s k), .float .f32 (chd s k), .float .f32 (twi s k), .slice A a.length ca, .slice L l.length cl, .slice D d.length cd, .float .f32 (floatOfInt .f32 c), .float .f32 tip]) := fun t o => Lib.hid ((blkL_at w1 #[.float .f32 (rad s k), .float .f32 (chd s k), .float .f32 (twi s k), .slice A a.length ca, .slice L l.length cl, .slice D d.length cd, .float .f32 (floatOfInt .f32 c), .float .f32 tip] t rfl).alloc o)
        have HY : ∀ o t, Hid (BlkL ((w1.alloc o).alloc (.cells #[.float .f32 wi, .float .f32 sp, .float .f32 p] t)) (w1.heap.size + 1) [.float .f32 wi, .float .f32 sp, .float .f32 p]) := fun o t => Lib.hid (blkL_at (w1.alloc o) #[.float .f32 wi, .float .f32 sp, .float .f32 p] t (by simp))
        clear b1
        go_wp2_with fail
        refine (i_isCourse _ _ _ _).mono ?_
        rintro e w2 ⟨rfl, b2⟩
        rw [HCO.out]
        have B2 : Hid (Below w.heap.size w w2) := Lib.hid (below_of (B1a _ _).out (B1a _ _).out.size b2)
        have HX2 := Lib.hid (((HX _ _).out).below b2)
        have HY2 := Lib.hid (((HY _ _).out).below b2)
        clear b2
        have k0 := (show BlkB w2 w1.heap.size (rad s k) (chd s k) (twi s k) A L D a l d ca cl cd (floatOfInt .f32 c) tip from HX2.out).limbs
        obtain ⟨k0, k1, k2, k3, k4, k5, k6, k7⟩ := k0
        have c0 := (HY2.out.2 0 _ rfl).1
        have c1 := (HY2.out.2 1 _ rfl).1
        have c2 := (HY2.out.2 2 _ rfl).1
        go_wp2_with fail
        refine (i_mib_no _ _ _ _ _ A L D ca cl cd a l d wi sp p _ (HP.out.below B2.out) HN.out.few HV.out HG.out).mono ?_
        rintro e w3 ⟨rfl, b3⟩
        have B3 : Hid (Below w.heap.size w w3) := Lib.hid (below_of B2.out B2.out.size b3)
        clear b3 k0 k1 k2 k3 k4 k5 k6 k7 c0 c1 c2
        go_wp2
        refine bodyPost_ret (results_tmp3 rfl _ _ _) rfl ?_
        exact ⟨_, _, by rw [E0.out]; rfl, by rw [E1.out]; exact canon_zero, by rw [E2.out]; exact canon_zero, B3.out.alloc B3.out.size _⟩
      · have HI0 : Hid (inO a l d s n c hub tip k wi sp p = (fin .f32 (vK a l d s c tip k wi sp p) && fin .f32 (vM a l d s c tip k wi sp p))) := Lib.hid (by unfold inO floC; rw [show ((k : Int).toNat) = k from rfl, hst, hc, hg]; rfl)
        have HI1 : Hid (in1 a l d s n c hub tip k wi sp p = both1 (vK a l d s c tip k wi sp p) (vM a l d s c tip k wi sp p)) := Lib.hid (by unfold in1 floC; rw [show ((k : Int).toNat) = k from rfl, hst, hc, hg]; rfl)
        have HI2 : Hid (in2 a l d s n c hub tip k wi sp p = both2 (vK a l d s c tip k wi sp p) (vM a l d s c tip k wi sp p)) := Lib.hid (by unfold in2 floC; rw [show ((k : Int).toNat) = k from rfl, hst, hc, hg]; rfl)
        have HST := Lib.hid hst; clear hst
        have HCO := Lib.hid hc; clear hc
        have HG : Hid (mibG a l d (floatOfInt .f32 c) tip (rad s k) (chd s k) (twi s k) wi sp p = true) := Lib.hid hg; clear hg
        go_enter Try.func34, Try.ntmps34
        go_wp2_with fail
        refine (i_bladeAt A L D S ca cl cd n cs c hub tip a l d s k _ (HR _).out HN.out HST.out).mono ?_
        rintro e w1 ⟨rfl, b1⟩
        have B1 : Hid (Below w.heap.size w w1) := Lib.hid (below_of (HB _).out (HB _).out.size b1)
        have B1a : ∀ o1 o2, Hid (Below w.heap.size w ((w1.alloc o1).alloc o2)) := fun _ _ => Lib.hid ((B1.out.alloc B1.out.size _).alloc (B1.out.alloc B1.out.size _).size _)
        have HX : ∀ t o, Hid (BlkL ((w1.alloc (.cells #[.float .f32 (rad s k), .float .f32 (chd s k), .float .f32 (twi s k), .slice A a.length ca, .slice L l.length cl, .slice D d.length cd, .float .f32 (floatOfInt .f32 c), .float .f32 tip] t)).alloc o) w1.heap.size [.float .f32 (rad s k), .float .f32 (chd s k), .float .f32 (twi s k), .slice A a.length ca, .slice L l.length cl, .slice D d.length cd, .float .f32 (floatOfInt .f32 c), .float .f32 tip]) := fun t o => Lib.hid ((blkL_at w1 #[.float .f32 (rad s k), .float .f32 (chd s k), .float .f32 (twi s k), .slice A a.length ca, .slice L l.length cl, .slice D d.length cd, .float .f32 (floatOfInt .f32 c), .float .f32 tip] t rfl).alloc o)
        have HY : ∀ o t, Hid (BlkL ((w1.alloc o).alloc (.cells #[.float .f32 wi, .float .f32 sp, .float .f32 p] t)) (w1.heap.size + 1) [.float .f32 wi, .float .f32 sp, .float .f32 p]) := fun o t => Lib.hid (blkL_at (w1.alloc o) #[.float .f32 wi, .float .f32 sp, .float .f32 p] t (by simp))
        clear b1
        go_wp2_with fail
        refine (i_isCourse _ _ _ _).mono ?_
        rintro e w2 ⟨rfl, b2⟩
        rw [HCO.out]
        have B2 : Hid (Below w.heap.size w w2) := Lib.hid (below_of (B1a _ _).out (B1a _ _).out.size b2)
        have HX2 := Lib.hid (((HX _ _).out).below b2)
        have HY2 := Lib.hid (((HY _ _).out).below b2)
        clear b2
        have k0 := (show BlkB w2 w1.heap.size (rad s k) (chd s k) (twi s k) A L D a l d ca cl cd (floatOfInt .f32 c) tip from HX2.out).limbs
        obtain ⟨k0, k1, k2, k3, k4, k5, k6, k7⟩ := k0
        have c0 := (HY2.out.2 0 _ rfl).1
        have c1 := (HY2.out.2 1 _ rfl).1
        have c2 := (HY2.out.2 2 _ rfl).1
        go_wp2_with fail
        refine (i_mib _ _ _ _ _ A L D ca cl cd a l d wi sp p _ (HP.out.below B2.out) HN.out.few HV.out HG.out).mono ?_
        rintro e w3 ⟨r3, r4, r1, r2, rk, rm, rfl, -, -, hk1, hm1, b3⟩
        have B3 : Hid (Below w.heap.size w w3) := Lib.hid (below_of B2.out B2.out.size b3)
        have B3a : ∀ o m, Hid (Below w.heap.size w ((w3.alloc o).drewN m)) := fun _ _ => Lib.hid (below_draws (B3.out.alloc B3.out.size _) _)
        have RK := Lib.hid hk1
        have RM := Lib.hid hm1
        clear b3 k0 k1 k2 k3 k4 k5 k6 k7 c0 c1 c2 hk1 hm1
        go_wp2_with fail
        refine (i_bothFinite _ _ (vK a l d s c tip k wi sp p) (vM a l d s c tip k wi sp p) _ (canonF RK.out (canonF rfl RK.out)) (canonF RM.out (canonF rfl RM.out))).mono ?_
        rintro e w' ⟨ra, rb, m, rfl, ha, hb, rfl⟩
        have QA := Lib.hid ha
        have QB := Lib.hid hb
        clear ha hb
        go_wp2
        refine bodyPost_ret (results_tmp3 rfl _ _ _) rfl ?_
        exact ⟨_, _, by rw [HI0.out]; rfl, by rw [HI1.out]; exact QA.out, by rw [HI2.out]; exact QB.out, by first | exact (B3a _ _).out | exact below_draws (B3a _ _).out _⟩
set_option maxHeartbeats 4000000 in
theorem s_InductionAt (A L D S : Option Addr) (ca cl cd n cs : Nat) (c : Int) (hub tip : Nat) (a l d s : List Nat) (i : Int) (wi sp p : Nat) (w : World) (h : Rt w A L D S a l d s) (hn : FewR a l d s n) :
    Calls Try.prog 33 #[.agg #[.slice A a.length ca, .slice L l.length cl, .slice D d.length cd, .slice S n cs, .int .i64 c, .float .f32 hub, .float .f32 tip], .int .i64 i, .float .f32 wi, .float .f32 sp, .float .f32 p] w fun e w' => ∃ r t, e = .returned (.tuple #[.float .f32 r, .float .f32 t, .bool (inO a l d s n c hub tip i wi sp p)]) ∧ canon .f32 r = in1 a l d s n c hub tip i wi sp p ∧ canon .f32 t = in2 a l d s n c hub tip i wi sp p ∧ Below w.heap.size w w' := by
  have HB : ∀ o1, Hid (Below w.heap.size w (w.alloc o1)) := fun _ => Lib.hid ((Below.refl _ _).alloc (Nat.le_refl _) _)
  have HR : ∀ o1, Hid (Rt (w.alloc o1) A L D S a l d s) := fun o1 => Lib.hid (h.below (HB o1).out)
  have hn1 := hn.1
  have hn2 : n ≤ 1048576 := by have := hn.2; omega
  have HN := Lib.hid hn; clear hn h
  have HK : ∀ t, Hid (Blk7 (w.alloc (.cells #[.slice A a.length ca, .slice L l.length cl, .slice D d.length cd, .slice S n cs, .int .i64 c, .float .f32 hub, .float .f32 tip] t)) w.heap.size A L D S a l d ca cl cd n cs c hub tip) := fun t => Lib.hid (blk7_at w A L D S a l d ca cl cd n cs c hub tip t rfl)
  cases hc : canB a l d s n c hub tip i wi sp p
  · obtain ⟨e0, e1, e2⟩ := in_no0 (flow_can_no hc).1
    have E0 := Lib.hid e0; have E1 := Lib.hid e1; have E2 := Lib.hid e2; clear e0 e1 e2
    have HC := Lib.hid hc; clear hc
    go_enter Try.func33, Try.ntmps33
    go_wp2_with fail
    refine (s_l03Can A L D S ca cl cd n cs c hub tip a l d s i w.heap.size wi sp p _ (HR _).out HN.out (HK _).out).mono ?_
    rintro e w1 ⟨rfl, b1⟩
    rw [HC.out]
    have B1 : Hid (Below w.heap.size w w1) := Lib.hid (below_of (HB _).out (HB _).out.size b1)
    clear b1
    go_wp2
    refine bodyPost_ret (results_tmp3 rfl _ _ _) rfl ?_
    exact ⟨_, _, by rw [E0.out]; rfl, by rw [E1.out]; exact canon_zero, by rw [E2.out]; exact canon_zero, B1.out⟩
  · obtain ⟨k, rfl, hk, hv⟩ := statR_at (show statR a l d s n c hub tip i = true from by unfold canB at hc; rw [Bool.and_eq_true] at hc; exact hc.1)
    have HV : Hid (validP a l d = true) := Lib.hid (by unfold validR at hv; rw [Bool.and_eq_true] at hv; exact hv.1)
    have HRA := Lib.hid (rotAt hv hk); clear hv
    obtain ⟨hp, ha, e1, -⟩ := flow_can_yes hc
    have HPF := Lib.hid hp
    have HA := Lib.hid ha
    cases hs : (flSt a l d s c tip k wi sp p).isSome
    · obtain ⟨e0, e1, e2⟩ := in_no0 (e1.trans hs)
      have E0 := Lib.hid e0; have E1 := Lib.hid e1; have E2 := Lib.hid e2; clear e0 e1 e2
      have HC := Lib.hid hc; clear hc ha hp
      have HS := Lib.hid hs; clear hs
      go_enter Try.func33, Try.ntmps33
      go_wp2_with fail
      refine (s_l03Can A L D S ca cl cd n cs c hub tip a l d s k w.heap.size wi sp p _ (HR _).out HN.out (HK _).out).mono ?_
      rintro e w1 ⟨rfl, b1⟩
      rw [HC.out]
      have B1 : Hid (Below w.heap.size w w1) := Lib.hid (below_of (HB _).out (HB _).out.size b1)
      have K1 : Hid (Blk7 w1 w.heap.size A L D S a l d ca cl cd n cs c hub tip) := Lib.hid ((HK _).out.below b1)
      have R1 : Hid (Rt w1 A L D S a l d s) := Lib.hid ((HR _).out.below b1)
      clear b1
      go_wp2_with fail
      refine (s_l03FlowAt A L D S ca cl cd n cs c hub tip a l d s k w.heap.size wi sp p _ R1.out hn1 hk hn2 K1.out HRA.out HV.out HPF.out HA.out).mono ?_
      rintro e w2 ⟨rfl, b2⟩
      have B2 : Hid (Below w.heap.size w w2) := Lib.hid (below_of B1.out B1.out.size b2)
      have K2 : Hid (Blk7 w2 w.heap.size A L D S a l d ca cl cd n cs c hub tip) := Lib.hid (K1.out.below b2)
      have R2 : Hid (Rt w2 A L D S a l d s) := Lib.hid (R1.out.below b2)
      clear b2
      rw [HS.out]
      go_wp2
      refine bodyPost_ret (results_tmp3 rfl _ _ _) rfl ?_
      exact ⟨_, _, by rw [E0.out]; rfl, by rw [E1.out]; exact canon_zero, by rw [E2.out]; exact canon_zero, B2.out⟩
    · obtain ⟨ha2, e0, e1, e2⟩ := in_yes hc hs
      have HA2 := Lib.hid ha2
      have E0 := Lib.hid e0; have E1 := Lib.hid e1; have E2 := Lib.hid e2; clear e0 e1 e2
      have HC := Lib.hid hc; clear hc ha hp ha2
      have HS := Lib.hid hs; clear hs
      go_enter Try.func33, Try.ntmps33
      go_wp2_with fail
      refine (s_l03Can A L D S ca cl cd n cs c hub tip a l d s k w.heap.size wi sp p _ (HR _).out HN.out (HK _).out).mono ?_
      rintro e w1 ⟨rfl, b1⟩
      rw [HC.out]
      have B1 : Hid (Below w.heap.size w w1) := Lib.hid (below_of (HB _).out (HB _).out.size b1)
      have K1 : Hid (Blk7 w1 w.heap.size A L D S a l d ca cl cd n cs c hub tip) := Lib.hid ((HK _).out.below b1)
      have R1 : Hid (Rt w1 A L D S a l d s) := Lib.hid ((HR _).out.below b1)
      clear b1
      go_wp2_with fail
      refine (s_l03FlowAt A L D S ca cl cd n cs c hub tip a l d s k w.heap.size wi sp p _ R1.out hn1 hk hn2 K1.out HRA.out HV.out HPF.out HA.out).mono ?_
      rintro e w2 ⟨rfl, b2⟩
      have B2 : Hid (Below w.heap.size w w2) := Lib.hid (below_of B1.out B1.out.size b2)
      have K2 : Hid (Blk7 w2 w.heap.size A L D S a l d ca cl cd n cs c hub tip) := Lib.hid (K1.out.below b2)
      have R2 : Hid (Rt w2 A L D S a l d s) := Lib.hid (R1.out.below b2)
      clear b2
      rw [HS.out]
      go_wp2_with fail
      refine (s_l03Slow A L D S ca cl cd n cs c hub tip a l d s k w.heap.size _ p _ R2.out hn1 hk hn2 K2.out HRA.out HV.out HA2.out).mono ?_
      rintro e w3 ⟨rk, rm, r, t, rfl, hk1, hm1, -, -, b3⟩
      have B3 : Hid (Below w.heap.size w w3) := Lib.hid (below_of B2.out B2.out.size b3)
      have RK' := Lib.hid hk1
      have RM' := Lib.hid hm1
      clear b3 hk1 hm1
      go_wp2_with fail
      refine (s_l03Two _ _ (vK a l d s c tip k wi sp p) (vM a l d s c tip k wi sp p) _ (canonF RK'.out (canonF rfl RK'.out)) (canonF RM'.out (canonF rfl RM'.out))).mono ?_
      rintro e w' ⟨ra, rb, m, rfl, ha, hb, rfl⟩
      have QA := Lib.hid ha
      have QB := Lib.hid hb
      clear ha hb
      go_wp2
      refine bodyPost_ret (results_tmp3 rfl _ _ _) rfl ?_
      exact ⟨_, _, by rw [E0.out]; rfl, by rw [E1.out]; exact QA.out, by rw [E2.out]; exact QB.out, by first | exact B3.out | exact below_draws (B3.out) _ | exact below_draws (below_draws (B3.out) _) _ | exact below_draws (below_draws (below_draws (B3.out) _) _) _ | exact below_draws (below_draws (below_draws (below_draws (B3.out) _) _) _) _ | exact below_draws (below_draws (below_draws (below_draws (below_draws (B3.out) _) _) _) _) _⟩
end Go.Proofs.Ytigfonnlhiedhaa
