/- StationForces: both sides. No statement is proved here. -/
import Derived.Test.YtigfonnlhiedhaaFor
import Derived.Test.YtigfonnlhiedhaaInd
namespace Go.Proofs.Ytigfonnlhiedhaa
open Go Go.RowKit
theorem for_not {a l d : List Nat} {q tip x y z wi sp p dn : Nat} (ha : fin .f32 (angZ z (flV (flowS a l d q tip x y z wi sp p 24)) p) = true) (h : puG a l d z (flV (flowS a l d q tip x y z wi sp p 24)) p = false) : (fin .f32 (fo1 a l d q tip x y z wi sp p dn) && fin .f32 (fo2 a l d q tip x y z wi sp p dn)) = false := by
  unfold puG at h
  rw [ha, Bool.true_and] at h
  unfold fo1 fo2
  cases h1 : fin .f32 (pusN a l d z (flV (flowS a l d q tip x y z wi sp p 24)) p)
  · rw [mulR_not_fin h1]; rfl
  · rw [h1, Bool.true_and] at h
    rw [Bool.and_comm, mulR_not_fin h]; rfl
def fK1 (a l d s : List Nat) (c : Int) (tip k wi sp p dn : Nat) : Nat := fo1 a l d (floatOfInt .f32 c) tip (rad s k) (chd s k) (twi s k) wi sp p dn
def fK2 (a l d s : List Nat) (c : Int) (tip k wi sp p dn : Nat) : Nat := fo2 a l d (floatOfInt .f32 c) tip (rad s k) (chd s k) (twi s k) wi sp p dn
def stC (a l d s : List Nat) (n : Nat) (c : Int) (hub tip : Nat) (i : Int) (wi sp p dn : Nat) : Bool := floC a l d s n c hub tip i wi sp p && (posi dn && gK a l d s c tip i.toNat wi sp p)
def stO (a l d s : List Nat) (n : Nat) (c : Int) (hub tip : Nat) (i : Int) (wi sp p dn : Nat) : Bool := stC a l d s n c hub tip i wi sp p dn && (fin .f32 (fK1 a l d s c tip i.toNat wi sp p dn) && fin .f32 (fK2 a l d s c tip i.toNat wi sp p dn))
def st1 (a l d s : List Nat) (n : Nat) (c : Int) (hub tip : Nat) (i : Int) (wi sp p dn : Nat) : Nat := if stC a l d s n c hub tip i wi sp p dn then both1 (fK1 a l d s c tip i.toNat wi sp p dn) (fK2 a l d s c tip i.toNat wi sp p dn) else 0
def st2 (a l d s : List Nat) (n : Nat) (c : Int) (hub tip : Nat) (i : Int) (wi sp p dn : Nat) : Nat := if stC a l d s n c hub tip i wi sp p dn then both2 (fK1 a l d s c tip i.toNat wi sp p dn) (fK2 a l d s c tip i.toNat wi sp p dn) else 0
theorem st_no {a l d s : List Nat} {n : Nat} {c : Int} {hub tip : Nat} {i : Int} {wi sp p dn : Nat} (h : stC a l d s n c hub tip i wi sp p dn = false) : stO a l d s n c hub tip i wi sp p dn = false ∧ st1 a l d s n c hub tip i wi sp p dn = 0 ∧ st2 a l d s n c hub tip i wi sp p dn = 0 :=
  ⟨by unfold stO; rw [h]; rfl, by unfold st1; rw [h]; rfl, by unfold st2; rw [h]; rfl⟩
theorem st_no0 {a l d s : List Nat} {n : Nat} {c : Int} {hub tip : Nat} {i : Int} {wi sp p dn : Nat} (h : floO a l d s n c hub tip i wi sp p = false) : stC a l d s n c hub tip i wi sp p dn = false := by
  unfold floO flSt at h
  unfold stC gK mibG
  cases hf : floC a l d s n c hub tip i wi sp p
  · rfl
  · rw [hf, Bool.true_and] at h
    rw [h]; simp
theorem st_yes {a l d s : List Nat} {n : Nat} {c : Int} {hub tip : Nat} {k : Nat} {wi sp p dn : Nat} (hc : canB a l d s n c hub tip k wi sp p = true) (hd : posi dn = true) (hs : (flSt a l d s c tip k wi sp p).isSome = true) :
    fin .f32 (angZ (twi s k) (flV (flSt a l d s c tip k wi sp p)) p) = true ∧ stO a l d s n c hub tip k wi sp p dn = (fin .f32 (fK1 a l d s c tip k wi sp p dn) && fin .f32 (fK2 a l d s c tip k wi sp p dn)) ∧ st1 a l d s n c hub tip k wi sp p dn = both1 (fK1 a l d s c tip k wi sp p dn) (fK2 a l d s c tip k wi sp p dn) ∧ st2 a l d s n c hub tip k wi sp p dn = both2 (fK1 a l d s c tip k wi sp p dn) (fK2 a l d s c tip k wi sp p dn) := by
  obtain ⟨ha, -, -, -⟩ := in_yes hc hs
  refine ⟨ha, ?_⟩
  unfold canB at hc
  rw [Bool.and_eq_true, Bool.and_eq_true] at hc
  obtain ⟨hst, hco, -⟩ := hc
  have hfc : floC a l d s n c hub tip k wi sp p = true := by unfold floC; rw [hst, hco]; rfl
  have hg : gK a l d s c tip k wi sp p = puG a l d (twi s k) (flV (flSt a l d s c tip k wi sp p)) p := by unfold flSt at hs ⊢; unfold gK mibG; rw [hs, Bool.true_and]
  have hC : stC a l d s n c hub tip k wi sp p dn = puG a l d (twi s k) (flV (flSt a l d s c tip k wi sp p)) p := by unfold stC; rw [show ((k : Int).toNat) = k from rfl, hfc, hd, hg, Bool.true_and, Bool.true_and]
  unfold stO st1 st2
  rw [show ((k : Int).toNat) = k from rfl, hC]
  cases hx : puG a l d (twi s k) (flV (flSt a l d s c tip k wi sp p)) p
  · have hn : (fin .f32 (fK1 a l d s c tip k wi sp p dn) && fin .f32 (fK2 a l d s c tip k wi sp p dn)) = false := by unfold flSt at ha hx; unfold fK1 fK2; exact for_not ha hx
    unfold both1 both2
    rw [hn]; exact ⟨rfl, rfl, rfl⟩
  · exact ⟨by simp only [Bool.true_and], by simp only [if_true], by simp only [if_true]⟩
set_option maxHeartbeats 4000000 in
set_option maxRecDepth 100000 in
theorem i_StationForces (A L D S : Option Addr) (ca cl cd n cs : Nat) (c : Int) (hub tip : Nat) (a l d s : List Nat) (i : Int) (wi sp p dn : Nat) (w : World) (h : Rt w A L D S a l d s) (hn : FewR a l d s n) :
    Calls Try.prog 36 #[.agg #[.slice A a.length ca, .slice L l.length cl, .slice D d.length cd, .slice S n cs, .int .i64 c, .float .f32 hub, .float .f32 tip], .int .i64 i, .float .f32 wi, .float .f32 sp, .float .f32 p, .float .f32 dn] w fun e w' => ∃ r t, e = .returned (.tuple #[.float .f32 r, .float .f32 t, .bool (stO a l d s n c hub tip i wi sp p dn)]) ∧ canon .f32 r = st1 a l d s n c hub tip i wi sp p dn ∧ canon .f32 t = st2 a l d s n c hub tip i wi sp p dn ∧ Below w.heap.size w w' := by
  have HB : ∀ o1, Hid (Below w.heap.size w (w.alloc o1)) := fun _ => Lib.hid ((Below.refl _ _).alloc (Nat.le_refl _) _)
  have HR : ∀ o1, Hid (Rt (w.alloc o1) A L D S a l d s) := fun o1 => Lib.hid (h.below (HB o1).out)
  have HN := Lib.hid hn; clear hn
  have HP := Lib.hid h.1; clear h
  cases hst : statR a l d s n c hub tip i
  · obtain ⟨e0, e1, e2⟩ := st_no (a := a) (l := l) (d := d) (s := s) (n := n) (c := c) (hub := hub) (tip := tip) (i := i) (wi := wi) (sp := sp) (p := p) (dn := dn) (by unfold stC floC; rw [hst]; rfl)
    have HST := Lib.hid hst; clear hst
    have E0 := Lib.hid e0; have E1 := Lib.hid e1; have E2 := Lib.hid e2; clear e0 e1 e2
    go_enter Try.func36, Try.ntmps36
    go_wp2_with fail
    refine (i_bladeAt_no A L D S ca cl cd n cs c hub tip a l d s i _ (HR _).out HN.out HST.out).mono ?_
    rintro e w1 ⟨rfl, b1⟩
    have B1 : Hid (Below w.heap.size w w1) := Lib.hid (below_of (HB _).out (HB _).out.size b1)
    have B1a : ∀ o1 o2, Hid (Below w.heap.size w ((w1.alloc o1).alloc o2)) := fun _ _ => Lib.hid ((B1.out.alloc B1.out.size _).alloc (B1.out.alloc B1.out.size _).size _)
    clear b1
    go_wp2
    refine bodyPost_ret (results_tmp3 rfl _ _ _) rfl ?_
    exact ⟨_, _, by rw [E0.out]; rfl, by rw [E1.out]; exact canon_zero, by rw [E2.out]; exact canon_zero, (B1a _ _).out⟩
  · obtain ⟨k, rfl, -, hv⟩ := statR_at hst
    have HV : Hid (validP a l d = true) := Lib.hid (by unfold validR at hv; rw [Bool.and_eq_true] at hv; exact hv.1)
    clear hv
    cases hc : couB wi sp p
    · obtain ⟨e0, e1, e2⟩ := st_no (a := a) (l := l) (d := d) (s := s) (n := n) (c := c) (hub := hub) (tip := tip) (i := k) (wi := wi) (sp := sp) (p := p) (dn := dn) (by unfold stC floC; rw [hc]; simp)
      have HST := Lib.hid hst; clear hst
      have HCO := Lib.hid hc; clear hc
      have E0 := Lib.hid e0; have E1 := Lib.hid e1; have E2 := Lib.hid e2; clear e0 e1 e2
      go_enter Try.func36, Try.ntmps36
      go_wp2_with fail
      refine (i_bladeAt A L D S ca cl cd n cs c hub tip a l d s k _ (HR _).out HN.out HST.out).mono ?_
      rintro e w1 ⟨rfl, b1⟩
      have B1 : Hid (Below w.heap.size w w1) := Lib.hid (below_of (HB _).out (HB _).out.size b1)
      have B1a : ∀ o1 o2, Hid (Below w.heap.size w ((w1.alloc o1).alloc o2)) := fun _ _ => Lib.hid ((B1.out.alloc B1.out.size _).alloc (B1.out.alloc B1.out.size _).size _)
      have HX : ∀ t o, Hid (BlkL ((w1.alloc (.cells #[.float .f32 (rad s k), .float .f32 (chd s k), .float .f32 (twi s k), .slice A a.length ca, .slice L l.length cl, .slice D d.length cd, .float .f32 (floatOfInt .f32 c), .float .f32 tip] t)).alloc o) w1.heap.size [.float .f32 (rad s k), .float .f32 (chd s k), .float .f32 (twi s k), .slice A a.length ca, .slice L l.length cl, .slice D d.length cd, .float .f32 (floatOfInt .f32 c), .float .f32 tip]) := fun t o => Lib.hid ((blkL_at w1 #[.float .f32 (rad s k), .float .f32 (chd s k), .float .f32 (twi s k), .slice A a.length ca, .slice L l.length cl, .slice D d.length cd, .float .f32 (floatOfInt .f32 c), .float .f32 tip] t rfl).alloc o)
      have HY : ∀ o t, Hid (BlkL ((w1.alloc o).alloc (.cells #[.float .f32 wi, .float .f32 sp, .float .f32 p] t)) (w1.heap.size + 1) [.float .f32 wi, .float .f32 sp, .float .f32 p]) := fun o t => Lib.hid (blkL_at (w1.alloc o) #[.float .f32 wi, .float .f32 sp, .float .f32 p] t (by simp))
      clear b1
      go_wp2_with fail
      refine (i_isCourse _ _ _ _).mono ?_
      rintro e w2 ⟨rfl, b2⟩
      rw [HCO.out]
      have B2 : Hid (Below w.heap.size w w2) := Lib.hid (below_of (B1a _ _).out (B1a _ _).out.size b2)
      have HX2 := Lib.hid (((HX _ _).out).below b2)
      have HY2 := Lib.hid (((HY _ _).out).below b2)
      clear b2
      go_wp2
      refine bodyPost_ret (results_tmp3 rfl _ _ _) rfl ?_
      exact ⟨_, _, by rw [E0.out]; rfl, by rw [E1.out]; exact canon_zero, by rw [E2.out]; exact canon_zero, B2.out⟩
    · cases hd : posi dn
      · obtain ⟨e0, e1, e2⟩ := st_no (a := a) (l := l) (d := d) (s := s) (n := n) (c := c) (hub := hub) (tip := tip) (i := k) (wi := wi) (sp := sp) (p := p) (dn := dn) (by unfold stC; rw [hd]; simp)
        have HST := Lib.hid hst; clear hst
        have HCO := Lib.hid hc; clear hc
        have HD := Lib.hid hd; clear hd
        have E0 := Lib.hid e0; have E1 := Lib.hid e1; have E2 := Lib.hid e2; clear e0 e1 e2
        go_enter Try.func36, Try.ntmps36
        go_wp2_with fail
        refine (i_bladeAt A L D S ca cl cd n cs c hub tip a l d s k _ (HR _).out HN.out HST.out).mono ?_
        rintro e w1 ⟨rfl, b1⟩
        have B1 : Hid (Below w.heap.size w w1) := Lib.hid (below_of (HB _).out (HB _).out.size b1)
        have B1a : ∀ o1 o2, Hid (Below w.heap.size w ((w1.alloc o1).alloc o2)) := fun _ _ => Lib.hid ((B1.out.alloc B1.out.size _).alloc (B1.out.alloc B1.out.size _).size _)
        have HX : ∀ t o, Hid (BlkL ((w1.alloc (.cells #[.float .f32 (rad s k), .float .f32 (chd s k), .float .f32 (twi s k), .slice A a.length ca, .slice L l.length cl, .slice D d.length cd, .float .f32 (floatOfInt .f32 c), .float .f32 tip] t)).alloc o) w1.heap.size [.float .f32 (rad s k), .float .f32 (chd s k), .float .f32 (twi s k), .slice A a.length ca, .slice L l.length cl, .slice D d.length cd, .float .f32 (floatOfInt .f32 c), .float .f32 tip]) := fun t o => Lib.hid ((blkL_at w1 #[.float .f32 (rad s k), .float .f32 (chd s k), .float .f32 (twi s k), .slice A a.length ca, .slice L l.length cl, .slice D d.length cd, .float .f32 (floatOfInt .f32 c), .float .f32 tip] t rfl).alloc o)
        have HY : ∀ o t, Hid (BlkL ((w1.alloc o).alloc (.cells #[.float .f32 wi, .float .f32 sp, .float .f32 p] t)) (w1.heap.size + 1) [.float .f32 wi, .float .f32 sp, .float .f32 p]) := fun o t => Lib.hid (blkL_at (w1.alloc o) #[.float .f32 wi, .float .f32 sp, .float .f32 p] t (by simp))
        clear b1
        go_wp2_with fail
        refine (i_isCourse _ _ _ _).mono ?_
        rintro e w2 ⟨rfl, b2⟩
        rw [HCO.out]
        have B2 : Hid (Below w.heap.size w w2) := Lib.hid (below_of (B1a _ _).out (B1a _ _).out.size b2)
        have HX2 := Lib.hid (((HX _ _).out).below b2)
        have HY2 := Lib.hid (((HY _ _).out).below b2)
        clear b2
        go_wp2_with fail
        refine (i_isPositive _ _).mono ?_
        rintro e w' ⟨m1, rfl, rfl⟩
        rw [HD.out]
        go_wp2
        refine bodyPost_ret (results_tmp3 rfl _ _ _) rfl ?_
        exact ⟨_, _, by rw [E0.out]; rfl, by rw [E1.out]; exact canon_zero, by rw [E2.out]; exact canon_zero, below_draws B2.out _⟩
      · cases hg : gK a l d s c tip k wi sp p
        · obtain ⟨e0, e1, e2⟩ := st_no (a := a) (l := l) (d := d) (s := s) (n := n) (c := c) (hub := hub) (tip := tip) (i := k) (wi := wi) (sp := sp) (p := p) (dn := dn) (by unfold stC; rw [show ((k : Int).toNat) = k from rfl, hg]; simp)
          have HST := Lib.hid hst; clear hst
          have HCO := Lib.hid hc; clear hc
          have HD := Lib.hid hd; clear hd
          have HG : Hid (mibG a l d (floatOfInt .f32 c) tip (rad s k) (chd s k) (twi s k) wi sp p = false) := Lib.hid hg; clear hg
          have E0 := Lib.hid e0; have E1 := Lib.hid e1; have E2 := Lib.hid e2; clear e0 e1 e2
          go_enter Try.func36, Try.ntmps36
          go_wp2_with fail
          refine (i_bladeAt A L D S ca cl cd n cs c hub tip a l d s k _ (HR _).out HN.out HST.out).mono ?_
          rintro e w1 ⟨rfl, b1⟩
          have B1 : Hid (Below w.heap.size w w1) := Lib.hid (below_of (HB _).out (HB _).out.size b1)
          have B1a : ∀ o1 o2, Hid (Below w.heap.size w ((w1.alloc o1).alloc o2)) := fun _ _ => Lib.hid ((B1.out.alloc B1.out.size _).alloc (B1.out.alloc B1.out.size _).size _)
          have HX : ∀ t o, Hid (BlkL ((w1.alloc (.cells #[.float .f32 (rad s k), .float .f32 (chd s k), .float .f32 (twi s k), .slice A a.length ca, .slice L l.length cl, .slice D d.length cd, .float .f32 (floatOfInt .f32 c), .float .f32 tip] t)).alloc o) w1.heap.size [.float .f32 (rad s k), .float .f32 (chd s k), .float .f32 (twi s k), .slice A a.length ca, .slice L l.length cl, .slice D d.length cd, .float .f32 (floatOfInt .f32 c), .float .f32 tip]) := fun t o => Lib.hid ((blkL_at w1 #[.float .f32 (rad s k), .float .f32 (chd s k), .float .f32 (twi s k), .slice A a.length ca, .slice L l.length cl, .slice D d.length cd, .float .f32 (floatOfInt .f32 c), .float .f32 tip] t rfl).alloc o)
          have HY : ∀ o t, Hid (BlkL ((w1.alloc o).alloc (.cells #[.float .f32 wi, .float .f32 sp, .float .f32 p] t)) (w1.heap.size + 1) [.float .f32 wi, .float .f32 sp, .float .f32 p]) := fun o t => Lib.hid (blkL_at (w1.alloc o) #[.float .f32 wi, .float .f32 sp, .float .f32 p] t (by simp))
          clear b1
          go_wp2_with fail
          refine (i_isCourse _ _ _ _).mono ?_
          rintro e w2 ⟨rfl, b2⟩
          rw [HCO.out]
          have B2 : Hid (Below w.heap.size w w2) := Lib.hid (below_of (B1a _ _).out (B1a _ _).out.size b2)
          have HX2 := Lib.hid (((HX _ _).out).below b2)
          have HY2 := Lib.hid (((HY _ _).out).below b2)
          clear b2
          go_wp2_with fail
          refine (i_isPositive _ _).mono ?_
          rintro e w' ⟨m1, rfl, rfl⟩
          rw [HD.out]
          have k0 := (show BlkB w2 w1.heap.size (rad s k) (chd s k) (twi s k) A L D a l d ca cl cd (floatOfInt .f32 c) tip from HX2.out).limbs
          obtain ⟨k0, k1, k2, k3, k4, k5, k6, k7⟩ := k0
          have c0 := (HY2.out.2 0 _ rfl).1
          have c1 := (HY2.out.2 1 _ rfl).1
          have c2 := (HY2.out.2 2 _ rfl).1
          go_wp2_with fail
          refine (i_forceOn_no _ _ _ _ _ A L D ca cl cd a l d wi sp p dn _ (HP.out.below (below_draws B2.out _)) HN.out.few HV.out HG.out).mono ?_
          rintro e w3 ⟨rfl, b3⟩
          have B3 : Hid (Below w.heap.size w w3) := Lib.hid (below_of (below_draws B2.out _) (below_draws B2.out _).size b3)
          clear b3 k0 k1 k2 k3 k4 k5 k6 k7 c0 c1 c2
          obtain ⟨fr, hfr⟩ : ∃ v, v = (0 : Nat) := ⟨_, rfl⟩
          go_wp2_with fail
          go_quiet (fail)
          go_wp2
          refine bodyPost_ret (results_tmp3 rfl _ _ _) rfl ?_
          exact ⟨_, _, by rw [E0.out]; rfl, by rw [E1.out]; exact canon_zero, by rw [E2.out]; exact canon_zero, by first | exact B3.out.alloc B3.out.size _ | exact below_draws (B3.out.alloc B3.out.size _) _ | exact (B3.out.alloc B3.out.size _).drew⟩
        · have HC0 : Hid (stC a l d s n c hub tip k wi sp p dn = true) := Lib.hid (by unfold stC floC; rw [show ((k : Int).toNat) = k from rfl, hst, hc, hd, hg]; rfl)
          have HI0 : Hid (stO a l d s n c hub tip k wi sp p dn = (fin .f32 (fK1 a l d s c tip k wi sp p dn) && fin .f32 (fK2 a l d s c tip k wi sp p dn))) := Lib.hid (by unfold stO; rw [show ((k : Int).toNat) = k from rfl, HC0.out, Bool.true_and])
          have HI1 : Hid (st1 a l d s n c hub tip k wi sp p dn = both1 (fK1 a l d s c tip k wi sp p dn) (fK2 a l d s c tip k wi sp p dn)) := Lib.hid (by unfold st1; rw [show ((k : Int).toNat) = k from rfl, HC0.out, if_pos rfl])
          have HI2 : Hid (st2 a l d s n c hub tip k wi sp p dn = both2 (fK1 a l d s c tip k wi sp p dn) (fK2 a l d s c tip k wi sp p dn)) := Lib.hid (by unfold st2; rw [show ((k : Int).toNat) = k from rfl, HC0.out, if_pos rfl])
          have HST := Lib.hid hst; clear hst
          have HCO := Lib.hid hc; clear hc
          have HD := Lib.hid hd; clear hd
          have HG : Hid (mibG a l d (floatOfInt .f32 c) tip (rad s k) (chd s k) (twi s k) wi sp p = true) := Lib.hid hg; clear hg
          go_enter Try.func36, Try.ntmps36
          go_wp2_with fail
          refine (i_bladeAt A L D S ca cl cd n cs c hub tip a l d s k _ (HR _).out HN.out HST.out).mono ?_
          rintro e w1 ⟨rfl, b1⟩
          have B1 : Hid (Below w.heap.size w w1) := Lib.hid (below_of (HB _).out (HB _).out.size b1)
          have B1a : ∀ o1 o2, Hid (Below w.heap.size w ((w1.alloc o1).alloc o2)) := fun _ _ => Lib.hid ((B1.out.alloc B1.out.size _).alloc (B1.out.alloc B1.out.size _).size _)
          have HX : ∀ t o, Hid (BlkL ((w1.alloc (.cells #[.float .f32 (rad s k), .float .f32 (chd s k), .float .f32 (twi s k), .slice A a.length ca, .slice L l.length cl, .slice D d.length cd, .float .f32 (floatOfInt .f32 c), .float .f32 tip] t)).alloc o) w1.heap.size [.float .f32 (rad s k), .float .f32 (chd s k), .float .f32 (twi s k), .slice A a.length ca, .slice L l.length cl, .slice D d.length cd, .float .f32 (floatOfInt .f32 c), .float .f32 tip]) := fun t o => Lib.hid ((blkL_at w1 #[.float .f32 (rad s k), .float .f32 (chd s k), .float .f32 (twi s k), .slice A a.length ca, .slice L l.length cl, .slice D d.length cd, .float .f32 (floatOfInt .f32 c), .float .f32 tip] t rfl).alloc o)
          have HY : ∀ o t, Hid (BlkL ((w1.alloc o).alloc (.cells #[.float .f32 wi, .float .f32 sp, .float .f32 p] t)) (w1.heap.size + 1) [.float .f32 wi, .float .f32 sp, .float .f32 p]) := fun o t => Lib.hid (blkL_at (w1.alloc o) #[.float .f32 wi, .float .f32 sp, .float .f32 p] t (by simp))
          clear b1
          go_wp2_with fail
          refine (i_isCourse _ _ _ _).mono ?_
          rintro e w2 ⟨rfl, b2⟩
          rw [HCO.out]
          have B2 : Hid (Below w.heap.size w w2) := Lib.hid (below_of (B1a _ _).out (B1a _ _).out.size b2)
          have HX2 := Lib.hid (((HX _ _).out).below b2)
          have HY2 := Lib.hid (((HY _ _).out).below b2)
          clear b2
          go_wp2_with fail
          refine (i_isPositive _ _).mono ?_
          rintro e w' ⟨m1, rfl, rfl⟩
          rw [HD.out]
          have k0 := (show BlkB w2 w1.heap.size (rad s k) (chd s k) (twi s k) A L D a l d ca cl cd (floatOfInt .f32 c) tip from HX2.out).limbs
          obtain ⟨k0, k1, k2, k3, k4, k5, k6, k7⟩ := k0
          have c0 := (HY2.out.2 0 _ rfl).1
          have c1 := (HY2.out.2 1 _ rfl).1
          have c2 := (HY2.out.2 2 _ rfl).1
          go_wp2_with fail
          refine (i_forceOn _ _ _ _ _ A L D ca cl cd a l d wi sp p dn _ (HP.out.below (below_draws B2.out _)) HN.out.few HV.out HG.out).mono ?_
          rintro e w3 ⟨r, t, rfl, hr1, ht1, b3⟩
          have B3 : Hid (Below w.heap.size w w3) := Lib.hid (below_of (below_draws B2.out _) (below_draws B2.out _).size b3)
          have QA := Lib.hid hr1
          have QB := Lib.hid ht1
          clear b3 k0 k1 k2 k3 k4 k5 k6 k7 c0 c1 c2 hr1 ht1
          go_wp2_with fail
          go_quiet (fail)
          go_wp2
          refine bodyPost_ret (results_tmp3 rfl _ _ _) rfl ?_
          exact ⟨_, _, by rw [HI0.out]; rfl, by rw [HI1.out]; exact QA.out, by rw [HI2.out]; exact QB.out, by first | exact B3.out.alloc B3.out.size _ | exact below_draws (B3.out.alloc B3.out.size _) _ | exact (B3.out.alloc B3.out.size _).drew⟩
set_option maxHeartbeats 4000000 in
set_option maxRecDepth 100000 in
theorem s_l03Forces_no (A L D S : Option Addr) (ca cl cd n cs : Nat) (c : Int) (hub tip : Nat) (a l d s : List Nat) (k B wi sp p dn : Nat) (w : World) (h : Rt w A L D S a l d s) (hs : s.length = n * 3) (hkn : k < n) (hn2 : n ≤ 1048576) (hk : Blk7 w B A L D S a l d ca cl cd n cs c hub tip) (hr : RotAt s c hub tip k) (hv : validP a l d = true) (hp : fin .f32 p = true) (ha : fin .f32 (angZ (twi s k) 981668463 p) = true) (hso : (flSt a l d s c tip k wi sp p).isSome = false) :
    Calls Try.prog 75 #[.pointer (some ⟨B, 0, none⟩), .int .i64 k, .float .f32 wi, .float .f32 sp, .float .f32 p, .float .f32 dn] w fun e w' => e = .returned (.tuple #[.float .f32 0, .float .f32 0, .bool false]) ∧ Below w.heap.size w w' := by
  have HR := Lib.hid h; clear h
  have HK := Lib.hid hk; clear hk
  have HRA := Lib.hid hr; clear hr
  have HV := Lib.hid hv; clear hv
  have HPF := Lib.hid hp; clear hp
  have HA := Lib.hid ha; clear ha
  have HS := Lib.hid hso; clear hso
  go_enter Try.func75, Try.ntmps75
  go_wp2_with fail
  refine (s_l03FlowAt A L D S ca cl cd n cs c hub tip a l d s k B wi sp p _ HR.out hs hkn hn2 HK.out HRA.out HV.out HPF.out HA.out).mono ?_
  rintro e w2 ⟨rfl, b2⟩
  have B2 := Lib.hid b2; clear b2
  rw [HS.out]
  go_wp2
  refine bodyPost_ret (results_tmp3 rfl _ _ _) rfl ?_
  exact ⟨rfl, B2.out⟩
set_option maxHeartbeats 4000000 in
set_option maxRecDepth 100000 in
theorem s_l03Forces (A L D S : Option Addr) (ca cl cd n cs : Nat) (c : Int) (hub tip : Nat) (a l d s : List Nat) (k B wi sp p dn : Nat) (w : World) (h : Rt w A L D S a l d s) (hs : s.length = n * 3) (hkn : k < n) (hn2 : n ≤ 1048576) (hk : Blk7 w B A L D S a l d ca cl cd n cs c hub tip) (hr : RotAt s c hub tip k) (hv : validP a l d = true) (hp : fin .f32 p = true) (ha : fin .f32 (angZ (twi s k) 981668463 p) = true) (hso : (flSt a l d s c tip k wi sp p).isSome = true) (ha2 : fin .f32 (angZ (twi s k) (flV (flSt a l d s c tip k wi sp p)) p) = true) :
    Calls Try.prog 75 #[.pointer (some ⟨B, 0, none⟩), .int .i64 k, .float .f32 wi, .float .f32 sp, .float .f32 p, .float .f32 dn] w fun e w' => ∃ r t, e = .returned (.tuple #[.float .f32 r, .float .f32 t, .bool (fin .f32 (fK1 a l d s c tip k wi sp p dn) && fin .f32 (fK2 a l d s c tip k wi sp p dn))]) ∧ canon .f32 r = both1 (fK1 a l d s c tip k wi sp p dn) (fK2 a l d s c tip k wi sp p dn) ∧ canon .f32 t = both2 (fK1 a l d s c tip k wi sp p dn) (fK2 a l d s c tip k wi sp p dn) ∧ Below w.heap.size w w' := by
  obtain ⟨b, off, rfl, -, -⟩ := h.2.at_ (k := k * 3) (by omega)
  have HR := Lib.hid h; clear h
  have HK := Lib.hid hk; clear hk
  have HRA := Lib.hid hr; clear hr
  have HV := Lib.hid hv; clear hv
  have HPF := Lib.hid hp; clear hp
  have HA := Lib.hid ha; clear ha
  have HA2 := Lib.hid ha2; clear ha2
  have HS := Lib.hid hso; clear hso
  go_enter Try.func75, Try.ntmps75
  go_wp2_with fail
  refine (s_l03FlowAt A L D (some ⟨b, off, none⟩) ca cl cd n cs c hub tip a l d s k B wi sp p _ HR.out hs hkn hn2 HK.out HRA.out HV.out HPF.out HA.out).mono ?_
  rintro e w2 ⟨rfl, b2⟩
  have B2 := Lib.hid b2
  have K2 : Hid (Blk7 w2 B A L D (some ⟨b, off, none⟩) a l d ca cl cd n cs c hub tip) := Lib.hid (HK.out.below b2)
  have R2 : Hid (Rt w2 A L D (some ⟨b, off, none⟩) a l d s) := Lib.hid (HR.out.below b2)
  clear b2
  rw [HS.out]
  go_wp2_with fail
  refine (s_l03Slow A L D (some ⟨b, off, none⟩) ca cl cd n cs c hub tip a l d s k B _ p _ R2.out hs hkn hn2 K2.out HRA.out HV.out HA2.out).mono ?_
  rintro e w3 ⟨rk, rm, r1, t1, rfl, hk1, hm1, hn1, ht1, b3⟩
  have B3 : Hid (Below w.heap.size w w3) := Lib.hid (below_of B2.out B2.out.size b3)
  have K3 : Hid (Blk7 w3 B A L D (some ⟨b, off, none⟩) a l d ca cl cd n cs c hub tip) := Lib.hid (K2.out.below b3)
  have R3 : Hid (Rt w3 A L D (some ⟨b, off, none⟩) a l d s) := Lib.hid (R2.out.below b3)
  unfold flSt at hk1 hm1 hn1 ht1
  have RK' := Lib.hid hk1
  have RM' := Lib.hid hm1
  have RN' := Lib.hid hn1
  have RT' := Lib.hid ht1
  have B3a : ∀ o, Hid (Below w.heap.size w (w3.alloc o)) := fun _ => Lib.hid (B3.out.alloc B3.out.size _)
  clear b3 hk1 hm1 hn1 ht1
  have hc0 := R3.out.2.same rfl (k := k * 3) (by omega)
  have hc1 := R3.out.2.same rfl (k := k * 3 + 1) (by omega)
  have hc2 := R3.out.2.same rfl (k := k * 3 + 2) (by omega)
  rw [← Nat.add_assoc] at hc1 hc2
  rw [show s.getD (k * 3) 0 = rad s k from rfl] at hc0
  rw [show s.getD (k * 3 + 1) 0 = chd s k from rfl] at hc1
  rw [show s.getD (k * 3 + 2) 0 = twi s k from rfl] at hc2
  obtain ⟨k0, k1, k2, k3, k4, k5, k6⟩ := K3.out.limbs
  go_wp2_with fail
  refine (s_l03Two _ _ (fK1 a l d s c tip k wi sp p dn) (fK2 a l d s c tip k wi sp p dn) _ ?e1 ?e2).mono ?_
  case e1 => unfold fK1 fo1 foQ foU foV; exact canonF (canonF (canonF (canonF rfl rfl) (canonF (canonF (canonF rfl (canonF rfl RK'.out)) (canonF rfl (canonF rfl RK'.out))) (canonF (canonF (canonF rfl rfl) (canonF rfl RM'.out)) (canonF (canonF rfl rfl) (canonF rfl RM'.out))))) rfl) RN'.out
  case e2 => unfold fK2 fo2 foQ foU foV; exact canonF (canonF (canonF (canonF rfl rfl) (canonF (canonF (canonF rfl (canonF rfl RK'.out)) (canonF rfl (canonF rfl RK'.out))) (canonF (canonF (canonF rfl rfl) (canonF rfl RM'.out)) (canonF (canonF rfl rfl) (canonF rfl RM'.out))))) rfl) RT'.out
  rintro e w' ⟨ra, rb, m, rfl, ha, hb, rfl⟩
  have QA := Lib.hid ha
  have QB := Lib.hid hb
  clear ha hb
  go_wp2
  refine bodyPost_ret (results_tmp3 rfl _ _ _) rfl ?_
  exact ⟨_, _, rfl, QA.out, QB.out, by first | exact below_draws (B3a _).out _ | exact below_draws (below_draws (B3a _).out _) _⟩
set_option maxHeartbeats 4000000 in
theorem s_StationForces (A L D S : Option Addr) (ca cl cd n cs : Nat) (c : Int) (hub tip : Nat) (a l d s : List Nat) (i : Int) (wi sp p dn : Nat) (w : World) (h : Rt w A L D S a l d s) (hn : FewR a l d s n) :
    Calls Try.prog 35 #[.agg #[.slice A a.length ca, .slice L l.length cl, .slice D d.length cd, .slice S n cs, .int .i64 c, .float .f32 hub, .float .f32 tip], .int .i64 i, .float .f32 wi, .float .f32 sp, .float .f32 p, .float .f32 dn] w fun e w' => ∃ r t, e = .returned (.tuple #[.float .f32 r, .float .f32 t, .bool (stO a l d s n c hub tip i wi sp p dn)]) ∧ canon .f32 r = st1 a l d s n c hub tip i wi sp p dn ∧ canon .f32 t = st2 a l d s n c hub tip i wi sp p dn ∧ Below w.heap.size w w' := by
  have HB : ∀ o1, Hid (Below w.heap.size w (w.alloc o1)) := fun _ => Lib.hid ((Below.refl _ _).alloc (Nat.le_refl _) _)
  have HR : ∀ o1, Hid (Rt (w.alloc o1) A L D S a l d s) := fun o1 => Lib.hid (h.below (HB o1).out)
  have hn1 := hn.1
  have hn2 : n ≤ 1048576 := by have := hn.2; omega
  have HN := Lib.hid hn; clear hn h
  have HK : ∀ t, Hid (Blk7 (w.alloc (.cells #[.slice A a.length ca, .slice L l.length cl, .slice D d.length cd, .slice S n cs, .int .i64 c, .float .f32 hub, .float .f32 tip] t)) w.heap.size A L D S a l d ca cl cd n cs c hub tip) := fun t => Lib.hid (blk7_at w A L D S a l d ca cl cd n cs c hub tip t rfl)
  cases hc : canB a l d s n c hub tip i wi sp p
  · obtain ⟨e0, e1, e2⟩ := st_no (dn := dn) (st_no0 (flow_can_no hc).1)
    have E0 := Lib.hid e0; have E1 := Lib.hid e1; have E2 := Lib.hid e2; clear e0 e1 e2
    have HC := Lib.hid hc; clear hc
    go_enter Try.func35, Try.ntmps35
    go_wp2_with fail
    refine (s_l03Can A L D S ca cl cd n cs c hub tip a l d s i w.heap.size wi sp p _ (HR _).out HN.out (HK _).out).mono ?_
    rintro e w1 ⟨rfl, b1⟩
    rw [HC.out]
    have B1 : Hid (Below w.heap.size w w1) := Lib.hid (below_of (HB _).out (HB _).out.size b1)
    clear b1
    go_wp2
    refine bodyPost_ret (results_tmp3 rfl _ _ _) rfl ?_
    exact ⟨_, _, by rw [E0.out]; rfl, by rw [E1.out]; exact canon_zero, by rw [E2.out]; exact canon_zero, B1.out⟩
  · obtain ⟨k, rfl, hk, hv⟩ := statR_at (show statR a l d s n c hub tip i = true from by unfold canB at hc; rw [Bool.and_eq_true] at hc; exact hc.1)
    have HV : Hid (validP a l d = true) := Lib.hid (by unfold validR at hv; rw [Bool.and_eq_true] at hv; exact hv.1)
    have HRA := Lib.hid (rotAt hv hk); clear hv
    obtain ⟨hp, ha, e1, -⟩ := flow_can_yes hc
    have HPF := Lib.hid hp
    have HA := Lib.hid ha
    cases hd : posi dn
    · obtain ⟨e0, e1, e2⟩ := st_no (a := a) (l := l) (d := d) (s := s) (n := n) (c := c) (hub := hub) (tip := tip) (i := k) (wi := wi) (sp := sp) (p := p) (dn := dn) (by unfold stC; rw [hd]; simp)
      have E0 := Lib.hid e0; have E1 := Lib.hid e1; have E2 := Lib.hid e2; clear e0 e1 e2
      have HC := Lib.hid hc; clear hc ha hp
      have HD := Lib.hid hd; clear hd
      go_enter Try.func35, Try.ntmps35
      go_wp2_with fail
      refine (s_l03Can A L D S ca cl cd n cs c hub tip a l d s k w.heap.size wi sp p _ (HR _).out HN.out (HK _).out).mono ?_
      rintro e w1 ⟨rfl, b1⟩
      rw [HC.out]
      have B1 : Hid (Below w.heap.size w w1) := Lib.hid (below_of (HB _).out (HB _).out.size b1)
      have K1 : Hid (Blk7 w1 w.heap.size A L D S a l d ca cl cd n cs c hub tip) := Lib.hid ((HK _).out.below b1)
      have R1 : Hid (Rt w1 A L D S a l d s) := Lib.hid ((HR _).out.below b1)
      have KD : ∀ m, Hid (Blk7 (w1.drewN m) w.heap.size A L D S a l d ca cl cd n cs c hub tip) := fun _ => K1
      have RD : ∀ m, Hid (Rt (w1.drewN m) A L D S a l d s) := fun _ => R1
      clear b1
      go_wp2_with fail
      refine (s_l02Above _ _).mono ?_
      rintro e w' ⟨m0, rfl, rfl⟩
      rw [HD.out]
      go_wp2
      refine bodyPost_ret (results_tmp3 rfl _ _ _) rfl ?_
      exact ⟨_, _, by rw [E0.out]; rfl, by rw [E1.out]; exact canon_zero, by rw [E2.out]; exact canon_zero, below_draws B1.out _⟩
    · cases hs : (flSt a l d s c tip k wi sp p).isSome
      · obtain ⟨e0, e1, e2⟩ := st_no (a := a) (l := l) (d := d) (s := s) (n := n) (c := c) (hub := hub) (tip := tip) (i := k) (wi := wi) (sp := sp) (p := p) (dn := dn) (st_no0 (e1.trans hs))
        have E0 := Lib.hid e0; have E1 := Lib.hid e1; have E2 := Lib.hid e2; clear e0 e1 e2
        have HC := Lib.hid hc; clear hc ha hp
        have HD := Lib.hid hd; clear hd
        have HS := Lib.hid hs; clear hs
        go_enter Try.func35, Try.ntmps35
        go_wp2_with fail
        refine (s_l03Can A L D S ca cl cd n cs c hub tip a l d s k w.heap.size wi sp p _ (HR _).out HN.out (HK _).out).mono ?_
        rintro e w1 ⟨rfl, b1⟩
        rw [HC.out]
        have B1 : Hid (Below w.heap.size w w1) := Lib.hid (below_of (HB _).out (HB _).out.size b1)
        have K1 : Hid (Blk7 w1 w.heap.size A L D S a l d ca cl cd n cs c hub tip) := Lib.hid ((HK _).out.below b1)
        have R1 : Hid (Rt w1 A L D S a l d s) := Lib.hid ((HR _).out.below b1)
        have KD : ∀ m, Hid (Blk7 (w1.drewN m) w.heap.size A L D S a l d ca cl cd n cs c hub tip) := fun _ => K1
        have RD : ∀ m, Hid (Rt (w1.drewN m) A L D S a l d s) := fun _ => R1
        clear b1
        go_wp2_with fail
        refine (s_l02Above _ _).mono ?_
        rintro e w' ⟨m0, rfl, rfl⟩
        rw [HD.out]
        go_wp2_with fail
        refine (s_l03Forces_no A L D S ca cl cd n cs c hub tip a l d s k w.heap.size wi sp p dn _ (RD _).out hn1 hk hn2 (KD _).out HRA.out HV.out HPF.out HA.out HS.out).mono ?_
        rintro e w2 ⟨rfl, b2⟩
        have B2 : Hid (Below w.heap.size w w2) := Lib.hid (below_of (below_draws B1.out _) (below_draws B1.out _).size b2)
        clear b2
        go_wp2
        refine bodyPost_ret (results_tmp3 rfl _ _ _) rfl ?_
        exact ⟨_, _, by rw [E0.out]; rfl, by rw [E1.out]; exact canon_zero, by rw [E2.out]; exact canon_zero, B2.out⟩
      · obtain ⟨ha2, e0, e1, e2⟩ := st_yes (dn := dn) hc hd hs
        have HA2 := Lib.hid ha2
        have E0 := Lib.hid e0; have E1 := Lib.hid e1; have E2 := Lib.hid e2; clear e0 e1 e2
        have HC := Lib.hid hc; clear hc ha hp ha2
        have HD := Lib.hid hd; clear hd
        have HS := Lib.hid hs; clear hs
        go_enter Try.func35, Try.ntmps35
        go_wp2_with fail
        refine (s_l03Can A L D S ca cl cd n cs c hub tip a l d s k w.heap.size wi sp p _ (HR _).out HN.out (HK _).out).mono ?_
        rintro e w1 ⟨rfl, b1⟩
        rw [HC.out]
        have B1 : Hid (Below w.heap.size w w1) := Lib.hid (below_of (HB _).out (HB _).out.size b1)
        have K1 : Hid (Blk7 w1 w.heap.size A L D S a l d ca cl cd n cs c hub tip) := Lib.hid ((HK _).out.below b1)
        have R1 : Hid (Rt w1 A L D S a l d s) := Lib.hid ((HR _).out.below b1)
        have KD : ∀ m, Hid (Blk7 (w1.drewN m) w.heap.size A L D S a l d ca cl cd n cs c hub tip) := fun _ => K1
        have RD : ∀ m, Hid (Rt (w1.drewN m) A L D S a l d s) := fun _ => R1
        clear b1
        go_wp2_with fail
        refine (s_l02Above _ _).mono ?_
        rintro e w' ⟨m0, rfl, rfl⟩
        rw [HD.out]
        go_wp2_with fail
        refine (s_l03Forces A L D S ca cl cd n cs c hub tip a l d s k w.heap.size wi sp p dn _ (RD _).out hn1 hk hn2 (KD _).out HRA.out HV.out HPF.out HA.out HS.out HA2.out).mono ?_
        rintro e w2 ⟨ra, rb, rfl, ha, hb, b2⟩
        have B2 : Hid (Below w.heap.size w w2) := Lib.hid (below_of (below_draws B1.out _) (below_draws B1.out _).size b2)
        have QA := Lib.hid ha
        have QB := Lib.hid hb
        clear ha hb b2
        go_wp2
        refine bodyPost_ret (results_tmp3 rfl _ _ _) rfl ?_
        exact ⟨_, _, by rw [E0.out]; rfl, by rw [E1.out]; exact QA.out, by rw [E2.out]; exact QB.out, B2.out⟩
end Go.Proofs.Ytigfonnlhiedhaa
