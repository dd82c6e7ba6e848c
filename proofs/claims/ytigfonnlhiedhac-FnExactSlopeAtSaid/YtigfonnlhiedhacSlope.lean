/- Slopes: both sides. No statement is proved here. -/
import Derived.Test.YtigfonnlhiedhacSpanI
import Derived.Test.YtigfonnlhiedhacLiftS
import Derived.Test.YtigfonnlhiedhacFin
import Derived.Test.YtigfonnlhiedhacInv
namespace Go.Proofs.Ytigfonnlhiedhac
open Go Go.RowKit
theorem quo_zeroS {k : FloatKind} {x y : Nat} (hy : k.format.order y 0 = some .eq) : fin k (fop .quo k x y) = false := by
  have hq : fin k (qnan k) = false := fin_of_nan (isn_qnan k)
  have hinf : ∀ s, fin k (k.encode (.infinity s)) = false := by intro s; cases k <;> cases s <;> decide +kernel
  have d0 : ∃ e, k.decode 0 = .number false 0 e := by
    cases k
    · exact ⟨-149, by decide +kernel⟩
    · exact ⟨-1074, by decide +kernel⟩
  obtain ⟨e0, d0⟩ := d0
  have d2 : k.format.read y = k.decode y := rfl
  have d1 : k.format.read x = k.decode x := rfl
  have d3 : k.format.read 0 = .number false 0 e0 := d0
  unfold fop
  rw [fin_canon]
  unfold floatBits Ieee.Format.div
  rw [d1, d2]
  unfold Ieee.Format.order at hy
  rw [d2, d3] at hy
  cases h2 : k.decode y with
  | nan t f => rw [h2] at hy; cases hy
  | infinity t => rw [h2] at hy; cases t <;> cases hy
  | number t n j =>
    have hn : n = 0 := by
      have d2' : k.decode y = .number t n j := h2
      have := order_numbers d2' d0
      unfold Ieee.Format.order at this
      rw [d2, d3] at this
      rw [h2] at hy this
      rw [hy] at this
      have h3 := Int.compare_eq_eq.1 (Option.some.inj this).symm
      have h4 : Ieee.signed false 0 (e0 - min j e0).toNat = 0 := by simp [Ieee.signed]
      rw [h4] at h3
      unfold Ieee.signed at h3
      rw [Nat.shiftLeft_eq] at h3
      have hp := Nat.two_pow_pos (j - min j e0).toNat
      cases t
      · simp only [Bool.false_eq_true, if_false] at h3
        have : n * 2 ^ (j - min j e0).toNat = 0 := by omega
        rcases Nat.mul_eq_zero.1 this with h | h
        · exact h
        · omega
      · simp only [if_true] at h3
        have : n * 2 ^ (j - min j e0).toNat = 0 := by omega
        rcases Nat.mul_eq_zero.1 this with h | h
        · exact h
        · omega
    subst hn
    cases h1 : k.decode x with
    | nan s f => exact hq
    | infinity s => simp only [Ieee.Datum.quotient]; exact hinf _
    | number s m i =>
      simp only [Ieee.Datum.quotient, if_true]
      by_cases hm : m = 0
      · rw [if_pos hm]; exact hq
      · rw [if_neg hm]; exact hinf _


def slY (a l : List Nat) (x : Nat) : Nat := l.getD (spJ a (spT' a x)) 0
def slZ (a l : List Nat) (x : Nat) : Nat := l.getD (spI a (spT' a x)) 0
def slDn (a : List Nat) (x : Nat) : Nat := spD (spLo a (spT' a x)) (spHi a (spT' a x))
def slWn (a : List Nat) (x : Nat) : Nat := spW (spLo a (spT' a x)) (spHi a (spT' a x))
def slV (a l : List Nat) (x : Nat) : Nat := fop .quo .f32 (fop .sub .f32 (slY a l x) (slZ a l x)) (canon .f32 (slDn a x))
def slO (a l d : List Nat) (x : Nat) : Bool := canSpan' a l d x && fin .f32 (slV a l x)
def slR (a l d : List Nat) (x : Nat) : Nat := if canSpan' a l d x then onlyN (slV a l x) else 0
theorem sl_way {a l : List Nat} {x : Nat} : fin .f32 (fop .quo .f32 (fop .sub .f32 (slY a l x) (slZ a l x)) (canon .f32 (slWn a x))) = fin .f32 (slV a l x) ∧ onlyN (fop .quo .f32 (fop .sub .f32 (slY a l x) (slZ a l x)) (canon .f32 (slWn a x))) = onlyN (slV a l x) := by
  cases hz : spZ (spLo a (spT' a x)) (spHi a (spT' a x))
  · have e : slWn a x = slDn a x := by unfold slWn slDn spW; rw [hz]; rfl
    rw [e]; exact ⟨rfl, rfl⟩
  · have h0 : FloatKind.f32.format.order (canon .f32 (slDn a x)) 0 = some .eq := by
      unfold spZ at hz
      have : canon .f32 0 = 0 := canon_zero
      rw [← this, order_canon, show slDn a x = spD (spLo a (spT' a x)) (spHi a (spT' a x)) from rfl]
      exact eq_of_beq hz
    have h1 : FloatKind.f32.format.order (canon .f32 (slWn a x)) 0 = some .eq := by
      have : canon .f32 0 = 0 := canon_zero
      rw [← this, order_canon]
      unfold slWn spW
      rw [hz, if_pos rfl]
      decide +kernel
    have f0 : fin .f32 (slV a l x) = false := quo_zeroS h0
    have f1 := quo_zeroS (x := fop .sub .f32 (slY a l x) (slZ a l x)) h1
    rw [f1, f0]
    unfold onlyN
    rw [f1, f0]
    exact ⟨rfl, rfl⟩
theorem canonS {op : BinOp} {k : FloatKind} {x y X Y : Nat} {w : World} (hx : canon k x = X) (hy : canon k y = Y) : canon k (fopV op k x y w) = fop op k X Y := by rw [canon_fopV, hx, hy]
theorem can_eqS (a l d : List Nat) (x : Nat) : canSpan a l d x = canSpan' a l d x := rfl
set_option maxHeartbeats 4000000 in
theorem i_spanAt_noS (A L D : Option Addr) (ca cl cd : Nat) (a l d : List Nat) (x : Nat) (w : World) (h : Pf w A L D a l d) (hn : Few a l d) (hcan : canSpan a l d x = false) :
    Calls Try.prog 83 #[.agg #[.slice A a.length ca, .slice L l.length cl, .slice D d.length cd], .float .f32 x] w fun e w' => e = .returned (.tuple #[.agg #[.int .i64 0, .int .i64 0, .float .f32 0, .float .f32 0], .bool false]) ∧ Below w.heap.size w w' := by
  have HP := Lib.hid h; clear h
  have HN := Lib.hid hn; clear hn
  have HB : ∀ o1 o2, Hid (Below w.heap.size w ((w.alloc o1).alloc o2)) := fun _ _ => Lib.hid (((Below.refl _ _).alloc (Nat.le_refl _) _).alloc (by simp) _)
  cases hx : fin .f32 x
  · have HX := Lib.hid hx
    clear hx hcan
    go_enter Try.func83, Try.ntmps83
    go_wp2_with fail
    go_step3
    go_wp2_with fail
    refine (i_WrapAngle_no x HX.out _).mono ?_
    rintro e w' ⟨n0, rfl, rfl⟩
    go_wp2
    try rw [Exit.noGoto_ret]
    refine bodyPost_ret (v := .tuple #[.agg #[.int .i64 0, .int .i64 0, .float .f32 0, .float .f32 0], .bool false]) (by simp [results, Try.results83, go_sem]) rfl ⟨rfl, ?_⟩
    first
      | exact below_draws (HB _ _).out _
      | exact ((((below_draws (HB _ _).out _).setCell (by show w.heap.size ≤ w.heap.size + 1; omega) _).setCell (by show w.heap.size ≤ w.heap.size + 1; omega) _).setCell (by show w.heap.size ≤ w.heap.size + 1; omega) _).setCell (by show w.heap.size ≤ w.heap.size + 1; omega) _
  · have HV : Hid (validP a l d = false) := Lib.hid (by unfold canSpan at hcan; rw [hx] at hcan; simpa using hcan)
    have HX := Lib.hid hx
    clear hx hcan
    go_enter Try.func83, Try.ntmps83
    go_wp2_with fail
    go_step3
    go_wp2_with fail
    refine (i_WrapAngle x HX.out _).mono ?_
    rintro e w' ⟨n0, rfl, rfl⟩
    go_wp2_with fail
    refine (i_ValidProfile A L D ca cl cd a l d _ (HP.out.below (below_draws (HB _ _).out _)) HN.out).mono ?_
    rintro e w1 ⟨rfl, b1⟩
    rw [show validP a l d = _ from HV.out]
    have R1 : Hid (Blk4 w1 (w.heap.size + 1) _ _ _ _) := Lib.hid ((Blk4.draws (blk4_at (w.alloc _) _ _ _ _ _ (by simp)) _).below b1)
    have B1 : Hid (Below w.heap.size w w1) := Lib.hid (below_of (below_draws (HB _ _).out _) (by simp <;> omega) b1)
    clear b1
    obtain ⟨-, ⟨r0, r1, r2, r3⟩, r4, r5, r6, r7⟩ := R1.out
    go_wp2
    try rw [Exit.noGoto_ret]
    refine bodyPost_ret (v := .tuple #[.agg #[.int .i64 0, .int .i64 0, .float .f32 0, .float .f32 0], .bool false]) (by simp [results, Try.results83, go_sem, r0, r1, r2, r3]) rfl ⟨rfl, ?_⟩
    first
      | exact B1.out
      | exact (((B1.out.setCell (by show w.heap.size ≤ w.heap.size + 1; omega) _).setCell (by show w.heap.size ≤ w.heap.size + 1; omega) _).setCell (by show w.heap.size ≤ w.heap.size + 1; omega) _).setCell (by show w.heap.size ≤ w.heap.size + 1; omega) _
theorem i_onlyFiniteD (x V : Nat) (w : World) (h : canon .f32 x = V) :
    Calls Try.prog 61 #[.float .f32 x] w fun e w' => ∃ r n, e = .returned (.tuple #[.float .f32 r, .bool (fin .f32 V)]) ∧ canon .f32 r = onlyN V ∧ w' = w.drewN n :=
  (i_onlyFinite x w).mono fun _ _ ⟨n, he, hw⟩ => ⟨onlyN x, n, by rw [he, ← h, fin_canon], by rw [canon_onlyN, h], hw⟩
theorem s_l02NumberD (x V : Nat) (w : World) (h : canon .f32 x = V) :
    Calls Try.prog 82 #[.float .f32 x] w fun e w' => ∃ r n, e = .returned (.tuple #[.float .f32 r, .bool (fin .f32 V)]) ∧ canon .f32 r = onlyN V ∧ w' = w.drewN n :=
  (s_l02Number x w).mono fun _ _ ⟨n, he, hw⟩ => ⟨onlyN x, n, by rw [he, ← h, fin_canon], by rw [canon_onlyN, h], hw⟩
theorem fins_atS {xs : List Nat} {n : Nat} (h : fins xs n = true) : ∀ j, j < n → fin .f32 (xs.getD j 0) = true := by
  induction n with
  | zero => intro j hj; omega
  | succ n ih =>
    simp only [fins, Bool.and_eq_true] at h
    intro j hj
    by_cases e : j = n
    · rw [e]; exact h.2
    · exact ih h.1 j (by omega)
theorem lift_fin {a l d : List Nat} {j : Nat} (h : validP a l d = true) (hj : j < l.length) : fin .f32 (l.getD j 0) = true := by
  have hs := sized_of h
  rw [validP_yes hs, Bool.and_eq_true, Bool.and_eq_true] at h
  exact fins_atS h.2.1 j hj
set_option maxHeartbeats 8000000 in
set_option maxRecDepth 100000 in
theorem i_SlopeAt (A L D : Option Addr) (ca cl cd : Nat) (a l d : List Nat) (x : Nat) (w : World) (h : Pf w A L D a l d) (hn : Few a l d) :
    Calls Try.prog 30 #[.agg #[.slice A a.length ca, .slice L l.length cl, .slice D d.length cd], .float .f32 x] w fun e w' => ∃ r, e = .returned (.tuple #[.float .f32 r, .bool (slO a l d x)]) ∧ canon .f32 r = slR a l d x ∧ Below w.heap.size w w' := by
  have HP := Lib.hid h; clear h
  have HN := Lib.hid hn; clear hn
  have HB : ∀ o1, Hid (Below w.heap.size w (w.alloc o1)) := fun _ => Lib.hid ((Below.refl _ _).alloc (Nat.le_refl _) _)
  cases hv : canSpan' a l d x
  · have HV := Lib.hid hv; clear hv
    go_enter Try.func30, Try.ntmps30
    go_wp2_with fail
    refine (i_spanAt_noS A L D ca cl cd a l d x _ (HP.out.below (HB _).out) HN.out HV.out).mono ?_
    rintro e w1 ⟨rfl, b1⟩
    have B1 : Hid (Below w.heap.size w w1) := Lib.hid (below_of (HB _).out (by simp) b1)
    clear b1
    go_wp2
    go_ret2
    exact ⟨_, by unfold slO; rw [HV.out]; rfl, by unfold slR; rw [HV.out]; exact canon_zero, by first | exact B1.out | exact B1.out.alloc B1.out.size _⟩
  · have HV := Lib.hid hv
    have hvp : validP a l d = true := by unfold canSpan' at hv; rw [Bool.and_eq_true] at hv; exact hv.1
    have s := can_sized (x := x) hv
    have hml : l.length = a.length := s.2.2.1
    have hi := spI_lt (a := a) (x := x) s.1
    have hj := spJ_lt (a := a) (x := x) s.1
    have hfy := lift_fin (j := spJ a (spT' a x)) hvp (by omega)
    have hfz := lift_fin (j := spI a (spT' a x)) hvp (by omega)
    have HW := Lib.hid (sl_way (a := a) (l := l) (x := x))
    have HSp : ∀ W, Pf W A L D a l d → Hid (Calls Try.prog 83 #[.agg #[.slice A a.length ca, .slice L l.length cl, .slice D d.length cd], .float .f32 x] W fun e w' => e = .returned (.tuple #[.agg #[.int .i64 (spI a (spT' a x)), .int .i64 (spJ a (spT' a x)), .float .f32 (slWn a x), .float .f32 (spF (spLo a (spT' a x)) (spHi a (spT' a x)) (wrapT x))], .bool true]) ∧ Below W.heap.size W w') := fun W hW => Lib.hid (i_spanAt A L D ca cl cd a l d x W hW HN.out HV.out)
    have HY : Hid (slY a l x = l.getD (spJ a (spT' a x)) 0) := rfl
    have HZ : Hid (slZ a l x = l.getD (spI a (spT' a x)) 0) := rfl
    clear hv hvp s
    generalize spF (spLo a (spT' a x)) (spHi a (spT' a x)) (wrapT x) = f at HSp
    generalize slWn a x = dd at HSp HW
    generalize spI a (spT' a x) = i at HSp HZ hi hfz
    generalize spJ a (spT' a x) = j at HSp HY hj hfy
    have hi' : i < l.length := by omega
    have hj' : j < l.length := by omega
    clear hi hj hml
    go_enter Try.func30, Try.ntmps30
    go_wp2_with fail
    refine (HSp _ (HP.out.below (HB _).out)).out.mono ?_
    rintro e w1 ⟨rfl, b1⟩
    have K1 : Hid (Blk3 w1 w.heap.size (.slice A a.length ca) (.slice L l.length cl) (.slice D d.length cd)) := Lib.hid ((blk3_new w _ _ _ _).below b1)
    have B1 : Hid (Below w.heap.size w w1) := Lib.hid (below_of (HB _).out (by simp) b1)
    clear b1
    obtain ⟨b, off, rfl, hb, hci⟩ := (HP.out.2.1.below B1.out).at_ hi'
    have hcj := (HP.out.2.1.below B1.out).same rfl hj'
    rw [← HZ.out] at hci hfz
    rw [← HY.out] at hcj hfy
    generalize slY a l x = y at hcj hfy HW
    generalize slZ a l x = z at hci hfz HW
    obtain ⟨vq, hvq⟩ : ∃ v, v = fop .quo .f32 (fop .sub .f32 y z) (canon .f32 dd) := ⟨_, rfl⟩
    rw [← hvq] at HW
    have HVQ : Hid (vq = fop .quo .f32 (fop .sub .f32 (canon .f32 y) (canon .f32 z)) (canon .f32 dd)) := Lib.hid (by rw [hvq, canon_of_not (isn_of_fin hfy), canon_of_not (isn_of_fin hfz)])
    clear hfy hfz hvq
    have k1 := (K1.out.alloc (.cells #[.int .i64 i, .int .i64 j, .float .f32 dd, .float .f32 f] 106)).2.1.2.1
    have pS := (blk4_at w1 (.int .i64 i) (.int .i64 j) (.float .f32 dd) (.float .f32 f) 106 rfl).2.1
    have hbi : (w1.alloc (.cells #[.int .i64 i, .int .i64 j, .float .f32 dd, .float .f32 f] 106)).cell? ⟨b, off + i, none⟩ = some (.float .f32 z) := by rw [((Below.refl _ _).alloc (Nat.le_refl _) _).cell (p := ⟨b, off + i, none⟩) hb]; exact hci
    have hbj : (w1.alloc (.cells #[.int .i64 i, .int .i64 j, .float .f32 dd, .float .f32 f] 106)).cell? ⟨b, off + j, none⟩ = some (.float .f32 y) := by rw [((Below.refl _ _).alloc (Nat.le_refl _) _).cell (p := ⟨b, off + j, none⟩) hb]; exact hcj
    have HBB : Hid (Below w.heap.size w (w1.alloc (.cells #[.int .i64 i, .int .i64 j, .float .f32 dd, .float .f32 f] 106))) := Lib.hid (B1.out.alloc B1.out.size _)
    clear hb hci hcj HP HY HZ HSp
    go_wp2_with fail
    clear B1 K1
    generalize w1.alloc (.cells #[.int .i64 i, .int .i64 j, .float .f32 dd, .float .f32 f] 106) = w2 at k1 pS hbi hbj HBB ⊢
    generalize w1.heap.size = bq at pS ⊢
    generalize w.heap.size = bs at k1 ⊢
    obtain ⟨p0, p1, p2, p3⟩ := pS
    refine wp_region_inv (fun q0 v => match q0 with
      | 0 => v = .pointer (some ⟨bs, 1, none⟩)
      | 1 => v = .slice (some ⟨b, off, none⟩) l.length cl
      | 2 => v = .pointer (some ⟨bq, 1, none⟩)
      | 3 => v = .int .i64 j
      | 4 => v = .pointer (some ⟨b, off + j, none⟩)
      | 5 => v = .float .f32 y
      | 6 => v = .pointer (some ⟨bs, 1, none⟩)
      | 7 => v = .slice (some ⟨b, off, none⟩) l.length cl
      | 8 => v = .pointer (some ⟨bq, 0, none⟩)
      | 9 => v = .int .i64 i
      | 10 => v = .pointer (some ⟨b, off + i, none⟩)
      | 11 => v = .float .f32 z
      | 12 => ∃ r, v = .float .f32 r ∧ canon .f32 r = fop .sub .f32 (canon .f32 y) (canon .f32 z)
      | 13 => v = .pointer (some ⟨bq, 2, none⟩)
      | 14 => v = .float .f32 dd
      | 15 => ∃ r, v = .float .f32 r ∧ canon .f32 r = vq
      | 16 => ∃ r, v = .tuple #[.float .f32 r, .bool (fin .f32 vq)] ∧ canon .f32 r = onlyN vq
      | 17 => ∃ r, v = .float .f32 r ∧ canon .f32 r = onlyN vq
      | 18 => v = .bool (fin .f32 vq)
      | 19 => ∃ r, v = .float .f32 r ∧ canon .f32 r = onlyN vq
      | 20 => v = .bool (fin .f32 vq)
      | _ => False) (fun _ w' => ∃ n, w' = w2.drewN n) (by kernel_rfl) (by kernel_rfl) ⟨1, rfl⟩ ?hop ?hend
    case hop =>
      intro q o hq listed act w3 hI hall
      obtain ⟨nn, rfl⟩ := hI.cls
      rcases q with _ | _ | _ | _ | _ | _ | _ | _ | _ | _ | _ | _ | _ | _ | _ | _ | _ | _ | _ | _ | _ | q
      · simp at hq; subst hq
        have g2 : act.tmps[2]?.getD undef = .pointer (some ⟨bs, 0, none⟩) := hI.kept 2 (by kernel_rfl)
        clear hI hall
        unfold Oper.wp
        go_simp
        exact ⟨_, rfl, rfl, _, rfl⟩
      · simp at hq; subst hq
        have g16 : act.tmps[16]?.getD undef = .pointer (some ⟨bs, 1, none⟩) := hI.has 0 16 rfl (hall ⟨0, .data⟩ (by simp) rfl)
        clear hI hall
        unfold Oper.wp
        go_simp
        exact ⟨_, rfl, rfl, _, rfl⟩
      · simp at hq; subst hq
        have g6 : act.tmps[6]?.getD undef = .pointer (some ⟨bq, 0, none⟩) := hI.kept 6 (by kernel_rfl)
        clear hI hall
        unfold Oper.wp
        go_simp
        exact ⟨_, rfl, rfl, _, rfl⟩
      · simp at hq; subst hq
        have g18 : act.tmps[18]?.getD undef = .pointer (some ⟨bq, 1, none⟩) := hI.has 2 18 rfl (hall ⟨2, .data⟩ (by simp) rfl)
        clear hI hall
        unfold Oper.wp
        go_simp
        exact ⟨_, rfl, rfl, _, rfl⟩
      · simp at hq; subst hq
        have g17 : act.tmps[17]?.getD undef = .slice (some ⟨b, off, none⟩) l.length cl := hI.has 1 17 rfl (hall ⟨1, .data⟩ (by simp) rfl)
        have g19 : act.tmps[19]?.getD undef = .int .i64 j := hI.has 3 19 rfl (hall ⟨3, .data⟩ (by simp) rfl)
        clear hI hall
        unfold Oper.wp
        go_simp
        exact ⟨_, rfl, rfl, _, rfl⟩
      · simp at hq; subst hq
        have g20 : act.tmps[20]?.getD undef = .pointer (some ⟨b, off + j, none⟩) := hI.has 4 20 rfl (hall ⟨4, .data⟩ (by simp) rfl)
        clear hI hall
        unfold Oper.wp
        go_simp
        exact ⟨_, rfl, rfl, _, rfl⟩
      · simp at hq; subst hq
        have g2 : act.tmps[2]?.getD undef = .pointer (some ⟨bs, 0, none⟩) := hI.kept 2 (by kernel_rfl)
        clear hI hall
        unfold Oper.wp
        go_simp
        exact ⟨_, rfl, rfl, _, rfl⟩
      · simp at hq; subst hq
        have g22 : act.tmps[22]?.getD undef = .pointer (some ⟨bs, 1, none⟩) := hI.has 6 22 rfl (hall ⟨6, .data⟩ (by simp) rfl)
        clear hI hall
        unfold Oper.wp
        go_simp
        exact ⟨_, rfl, rfl, _, rfl⟩
      · simp at hq; subst hq
        have g6 : act.tmps[6]?.getD undef = .pointer (some ⟨bq, 0, none⟩) := hI.kept 6 (by kernel_rfl)
        clear hI hall
        unfold Oper.wp
        go_simp
        exact ⟨_, rfl, rfl, _, rfl⟩
      · simp at hq; subst hq
        have g24 : act.tmps[24]?.getD undef = .pointer (some ⟨bq, 0, none⟩) := hI.has 8 24 rfl (hall ⟨8, .data⟩ (by simp) rfl)
        clear hI hall
        unfold Oper.wp
        go_simp
        exact ⟨_, rfl, rfl, _, rfl⟩
      · simp at hq; subst hq
        have g23 : act.tmps[23]?.getD undef = .slice (some ⟨b, off, none⟩) l.length cl := hI.has 7 23 rfl (hall ⟨7, .data⟩ (by simp) rfl)
        have g25 : act.tmps[25]?.getD undef = .int .i64 i := hI.has 9 25 rfl (hall ⟨9, .data⟩ (by simp) rfl)
        clear hI hall
        unfold Oper.wp
        go_simp
        exact ⟨_, rfl, rfl, _, rfl⟩
      · simp at hq; subst hq
        have g26 : act.tmps[26]?.getD undef = .pointer (some ⟨b, off + i, none⟩) := hI.has 10 26 rfl (hall ⟨10, .data⟩ (by simp) rfl)
        clear hI hall
        unfold Oper.wp
        go_simp
        exact ⟨_, rfl, rfl, _, rfl⟩
      · simp at hq; subst hq
        have g21 : act.tmps[21]?.getD undef = .float .f32 y := hI.has 5 21 rfl (hall ⟨5, .data⟩ (by simp) rfl)
        have g27 : act.tmps[27]?.getD undef = .float .f32 z := hI.has 11 27 rfl (hall ⟨11, .data⟩ (by simp) rfl)
        clear hI hall
        unfold Oper.wp
        go_simp
        exact ⟨_, rfl, ⟨_, rfl, canonS rfl rfl⟩, _, rfl⟩
      · simp at hq; subst hq
        have g6 : act.tmps[6]?.getD undef = .pointer (some ⟨bq, 0, none⟩) := hI.kept 6 (by kernel_rfl)
        clear hI hall
        unfold Oper.wp
        go_simp
        exact ⟨_, rfl, rfl, _, rfl⟩
      · simp at hq; subst hq
        have g29 : act.tmps[29]?.getD undef = .pointer (some ⟨bq, 2, none⟩) := hI.has 13 29 rfl (hall ⟨13, .data⟩ (by simp) rfl)
        clear hI hall
        unfold Oper.wp
        go_simp
        exact ⟨_, rfl, rfl, _, rfl⟩
      · simp at hq; subst hq
        obtain ⟨r12, g28, h12a⟩ := hI.has 12 28 rfl (hall ⟨12, .data⟩ (by simp) rfl)
        have g30 : act.tmps[30]?.getD undef = .float .f32 dd := hI.has 14 30 rfl (hall ⟨14, .data⟩ (by simp) rfl)
        clear hI hall
        unfold Oper.wp
        go_simp
        exact ⟨_, rfl, ⟨_, rfl, by rw [HVQ.out]; exact canonS h12a rfl⟩, _, rfl⟩
      · simp at hq; subst hq
        obtain ⟨r15, g31, h15a⟩ := hI.has 15 31 rfl (hall ⟨15, .data⟩ (by simp) rfl)
        clear hI hall
        unfold Oper.wp
        go_simp
        refine (i_onlyFiniteD _ vq _ h15a).mono ?_
        rintro e w4 ⟨r, m, rfl, hr, rfl⟩
        exact ⟨_, rfl, ⟨_, rfl, hr⟩, _, by first | rfl | exact World.drewN_drewN ..⟩
      · simp at hq; subst hq
        obtain ⟨r16, g32, h16a⟩ := hI.has 16 32 rfl (hall ⟨16, .data⟩ (by simp) rfl)
        clear hI hall
        unfold Oper.wp
        go_simp
        exact ⟨_, rfl, ⟨_, rfl, h16a⟩, _, rfl⟩
      · simp at hq; subst hq
        obtain ⟨r16, g32, h16a⟩ := hI.has 16 32 rfl (hall ⟨16, .data⟩ (by simp) rfl)
        clear hI hall
        unfold Oper.wp
        go_simp
        exact ⟨_, rfl, rfl, _, rfl⟩
      · simp at hq; subst hq
        obtain ⟨r17, g33, h17a⟩ := hI.has 17 33 rfl (hall ⟨17, .data⟩ (by simp) rfl)
        clear hI hall
        unfold Oper.wp
        go_simp
        exact ⟨_, rfl, ⟨_, rfl, h17a⟩, _, rfl⟩
      · simp at hq; subst hq
        have g34 : act.tmps[34]?.getD undef = .bool (fin .f32 vq) := hI.has 18 34 rfl (hall ⟨18, .data⟩ (by simp) rfl)
        clear hI hall
        unfold Oper.wp
        go_simp
        exact ⟨_, rfl, rfl, _, rfl⟩
      · simp at hq
    case hend =>
      intro listed act w3 hI hall
      obtain ⟨nn, rfl⟩ := hI.cls
      obtain ⟨r, g4, hr⟩ := hI.has 19 4 rfl (hall 19 (by decide))
      have g5 : act.tmps[5]?.getD undef = .bool (fin .f32 vq) := hI.has 20 5 rfl (hall 20 (by decide))
      have hd := hI.defers
      clear hI hall
      go_wp2
      refine bodyPost_ret (v := .tuple #[.float .f32 r, .bool (fin .f32 vq)]) (by simp [results, Try.results30, g4, g5, go_sem]) (by first | rfl | exact hd) ⟨r, by unfold slO; rw [HV.out, ← HW.out.1]; rfl, by rw [hr, HW.out.2]; unfold slR; rw [HV.out]; rfl, below_draws HBB.out _⟩
set_option maxHeartbeats 8000000 in
set_option maxRecDepth 100000 in
theorem s_SlopeAt (A L D : Option Addr) (ca cl cd : Nat) (a l d : List Nat) (x : Nat) (w : World) (h : Pf w A L D a l d) (hn : Few a l d) :
    Calls Try.prog 28 #[.agg #[.slice A a.length ca, .slice L l.length cl, .slice D d.length cd], .float .f32 x] w fun e w' => ∃ r, e = .returned (.tuple #[.float .f32 r, .bool (slO a l d x)]) ∧ canon .f32 r = slR a l d x ∧ Below w.heap.size w w' := by
  have HP := Lib.hid h; clear h
  have HN := Lib.hid hn; clear hn
  have HB : ∀ o1, Hid (Below w.heap.size w (w.alloc o1)) := fun _ => Lib.hid ((Below.refl _ _).alloc (Nat.le_refl _) _)
  cases hv : canSpan' a l d x
  · have HV := Lib.hid hv; clear hv
    go_enter Try.func28, Try.ntmps28
    go_wp2_with fail
    refine (s_l02Can A L D ca cl cd a l d x _ _ (HP.out.below (HB _).out) (blk3_new w _ _ _ _) HN.out).mono ?_
    rintro e w1 ⟨n, rfl, rfl⟩
    rw [show canSpan' a l d x = _ from HV.out]
    go_wp2
    go_ret2
    exact ⟨_, by unfold slO; rw [HV.out]; rfl, by unfold slR; rw [HV.out]; exact canon_zero, below_draws (HB _).out _⟩
  · have HV := Lib.hid hv
    have hvp : validP a l d = true := by unfold canSpan' at hv; rw [Bool.and_eq_true] at hv; exact hv.1
    have s := can_sized (x := x) hv
    have hml : l.length = a.length := s.2.2.1
    have hi := spI_lt (a := a) (x := x) s.1
    have hj := spJ_lt (a := a) (x := x) s.1
    have hfy := lift_fin (j := spJ a (spT' a x)) hvp (by omega)
    have hfz := lift_fin (j := spI a (spT' a x)) hvp (by omega)
    have HSp : ∀ W BB, Pf W A L D a l d → Blk3 W BB (.slice A a.length ca) (.slice L l.length cl) (.slice D d.length cd) → Hid (Calls Try.prog 81 #[.pointer (some ⟨BB, 0, none⟩), .float .f32 x] W fun e w' => e = .returned (.tuple #[.int .i64 (spI a (spT' a x)), .int .i64 (spJ a (spT' a x)), .float .f32 (spF (spLo a (spT' a x)) (spHi a (spT' a x)) (wrapT x)), .float .f32 (slDn a x)]) ∧ w' = W) := fun W BB hW hK => Lib.hid (s_l02Pair A L D ca cl cd a l d x BB W hW hK HV.out)
    have HY : Hid (slY a l x = l.getD (spJ a (spT' a x)) 0) := rfl
    have HZ : Hid (slZ a l x = l.getD (spI a (spT' a x)) 0) := rfl
    have HVV : Hid (slV a l x = fop .quo .f32 (fop .sub .f32 (slY a l x) (slZ a l x)) (canon .f32 (slDn a x))) := rfl
    clear hv hvp s
    generalize spF (spLo a (spT' a x)) (spHi a (spT' a x)) (wrapT x) = f at HSp
    generalize slDn a x = dd at HSp HVV
    generalize spI a (spT' a x) = i at HSp HZ hi hfz
    generalize spJ a (spT' a x) = j at HSp HY hj hfy
    have hi' : i < l.length := by omega
    have hj' : j < l.length := by omega
    clear hi hj hml
    have HPA : ∀ o n, Hid (Pf ((w.alloc o).drewN n) A L D a l d) := fun o n => Lib.hid (HP.out.below (below_draws (HB o).out n))
    have HKA : ∀ t n, Hid (Blk3 ((w.alloc (.cells #[.slice A a.length ca, .slice L l.length cl, .slice D d.length cd] t)).drewN n) w.heap.size (.slice A a.length ca) (.slice L l.length cl) (.slice D d.length cd)) := fun t n => Lib.hid (Blk3.draws (blk3_new w _ _ _ t) n)
    go_enter Try.func28, Try.ntmps28
    go_wp2_with fail
    refine (s_l02Can A L D ca cl cd a l d x _ _ (HP.out.below (HB _).out) (blk3_new w _ _ _ _) HN.out).mono ?_
    rintro e w1 ⟨n, rfl, rfl⟩
    rw [show canSpan' a l d x = _ from HV.out]
    go_wp2_with fail
    refine (HSp _ _ (HPA _ _).out (HKA _ _).out).out.mono ?_
    rintro e w' ⟨rfl, rfl⟩
    have K1 := (HKA 26 n).out.2.1
    obtain ⟨k0, k1, k2⟩ := K1
    obtain ⟨b, off, rfl, hb, hci⟩ := (HPA (.cells #[.slice A a.length ca, .slice L l.length cl, .slice D d.length cd] 26) n).out.2.1.at_ hi'
    have hcj := (HPA (.cells #[.slice A a.length ca, .slice (some ⟨b, off, none⟩) l.length cl, .slice D d.length cd] 26) n).out.2.1.same rfl hj'
    have HBB := Lib.hid (below_draws (HB (.cells #[.slice A a.length ca, .slice (some ⟨b, off, none⟩) l.length cl, .slice D d.length cd] 26)).out n)
    rw [← HZ.out] at hci hfz
    rw [← HY.out] at hcj hfy
    generalize slY a l x = y at hcj hfy HVV
    generalize slZ a l x = z at hci hfz HVV
    clear hb HP HY HZ HSp HPA HKA
    generalize (w.alloc (.cells #[.slice A a.length ca, .slice (some ⟨b, off, none⟩) l.length cl, .slice D d.length cd] 26)).drewN n = w2 at k0 k1 k2 hci hcj HBB ⊢
    have HVV2 : Hid (slV a l x = fop .quo .f32 (fop .sub .f32 (canon .f32 y) (canon .f32 z)) (canon .f32 dd)) := Lib.hid (by rw [HVV.out, canon_of_not (isn_of_fin hfy), canon_of_not (isn_of_fin hfz)])
    obtain ⟨vq, hvq⟩ : ∃ v, v = slV a l x := ⟨_, rfl⟩
    rw [← hvq] at HVV2
    have HSV : Hid (slV a l x = vq) := Lib.hid hvq.symm
    clear hvq HVV hfy hfz
    generalize w.heap.size = bs at k0 k1 k2 ⊢
    go_wp2_with fail
    refine wp_region_inv (fun q0 v => match q0 with
      | 0 => v = .pointer (some ⟨bs, 1, none⟩)
      | 1 => v = .slice (some ⟨b, off, none⟩) l.length cl
      | 2 => v = .int .i64 j
      | 3 => v = .pointer (some ⟨b, off + j, none⟩)
      | 4 => v = .float .f32 y
      | 5 => v = .pointer (some ⟨bs, 1, none⟩)
      | 6 => v = .slice (some ⟨b, off, none⟩) l.length cl
      | 7 => v = .int .i64 i
      | 8 => v = .pointer (some ⟨b, off + i, none⟩)
      | 9 => v = .float .f32 z
      | 10 => ∃ r, v = .float .f32 r ∧ canon .f32 r = fop .sub .f32 (canon .f32 y) (canon .f32 z)
      | 11 => v = .float .f32 dd
      | 12 => ∃ r, v = .float .f32 r ∧ canon .f32 r = vq
      | 13 => ∃ r, v = .tuple #[.float .f32 r, .bool (fin .f32 vq)] ∧ canon .f32 r = onlyN vq
      | 14 => ∃ r, v = .float .f32 r ∧ canon .f32 r = onlyN vq
      | 15 => v = .bool (fin .f32 vq)
      | 16 => ∃ r, v = .float .f32 r ∧ canon .f32 r = onlyN vq
      | 17 => v = .bool (fin .f32 vq)
      | _ => False) (fun _ w' => ∃ n, w' = w2.drewN n) (by kernel_rfl) (by kernel_rfl) ⟨1, rfl⟩ ?hop ?hend
    case hop =>
      intro q o hq listed act w3 hI hall
      obtain ⟨nn, rfl⟩ := hI.cls
      rcases q with _ | _ | _ | _ | _ | _ | _ | _ | _ | _ | _ | _ | _ | _ | _ | _ | _ | _ | q
      · simp at hq; subst hq
        have g2 : act.tmps[2]?.getD undef = .pointer (some ⟨bs, 0, none⟩) := hI.kept 2 (by kernel_rfl)
        clear hI hall
        unfold Oper.wp
        go_simp
        exact ⟨_, rfl, rfl, _, rfl⟩
      · simp at hq; subst hq
        have g20 : act.tmps[20]?.getD undef = .pointer (some ⟨bs, 1, none⟩) := hI.has 0 20 rfl (hall ⟨0, .data⟩ (by simp) rfl)
        clear hI hall
        unfold Oper.wp
        go_simp
        exact ⟨_, rfl, rfl, _, rfl⟩
      · simp at hq; subst hq
        have g7 : act.tmps[7]?.getD undef = .int .i64 j := hI.kept 7 (by kernel_rfl)
        clear hI hall
        unfold Oper.wp
        go_simp
        exact ⟨_, rfl, rfl, _, rfl⟩
      · simp at hq; subst hq
        have g21 : act.tmps[21]?.getD undef = .slice (some ⟨b, off, none⟩) l.length cl := hI.has 1 21 rfl (hall ⟨1, .data⟩ (by simp) rfl)
        have g22 : act.tmps[22]?.getD undef = .int .i64 j := hI.has 2 22 rfl (hall ⟨2, .data⟩ (by simp) rfl)
        clear hI hall
        unfold Oper.wp
        go_simp
        exact ⟨_, rfl, rfl, _, rfl⟩
      · simp at hq; subst hq
        have g23 : act.tmps[23]?.getD undef = .pointer (some ⟨b, off + j, none⟩) := hI.has 3 23 rfl (hall ⟨3, .data⟩ (by simp) rfl)
        clear hI hall
        unfold Oper.wp
        go_simp
        exact ⟨_, rfl, rfl, _, rfl⟩
      · simp at hq; subst hq
        have g2 : act.tmps[2]?.getD undef = .pointer (some ⟨bs, 0, none⟩) := hI.kept 2 (by kernel_rfl)
        clear hI hall
        unfold Oper.wp
        go_simp
        exact ⟨_, rfl, rfl, _, rfl⟩
      · simp at hq; subst hq
        have g25 : act.tmps[25]?.getD undef = .pointer (some ⟨bs, 1, none⟩) := hI.has 5 25 rfl (hall ⟨5, .data⟩ (by simp) rfl)
        clear hI hall
        unfold Oper.wp
        go_simp
        exact ⟨_, rfl, rfl, _, rfl⟩
      · simp at hq; subst hq
        have g6 : act.tmps[6]?.getD undef = .int .i64 i := hI.kept 6 (by kernel_rfl)
        clear hI hall
        unfold Oper.wp
        go_simp
        exact ⟨_, rfl, rfl, _, rfl⟩
      · simp at hq; subst hq
        have g26 : act.tmps[26]?.getD undef = .slice (some ⟨b, off, none⟩) l.length cl := hI.has 6 26 rfl (hall ⟨6, .data⟩ (by simp) rfl)
        have g27 : act.tmps[27]?.getD undef = .int .i64 i := hI.has 7 27 rfl (hall ⟨7, .data⟩ (by simp) rfl)
        clear hI hall
        unfold Oper.wp
        go_simp
        exact ⟨_, rfl, rfl, _, rfl⟩
      · simp at hq; subst hq
        have g28 : act.tmps[28]?.getD undef = .pointer (some ⟨b, off + i, none⟩) := hI.has 8 28 rfl (hall ⟨8, .data⟩ (by simp) rfl)
        clear hI hall
        unfold Oper.wp
        go_simp
        exact ⟨_, rfl, rfl, _, rfl⟩
      · simp at hq; subst hq
        have g24 : act.tmps[24]?.getD undef = .float .f32 y := hI.has 4 24 rfl (hall ⟨4, .data⟩ (by simp) rfl)
        have g29 : act.tmps[29]?.getD undef = .float .f32 z := hI.has 9 29 rfl (hall ⟨9, .data⟩ (by simp) rfl)
        clear hI hall
        unfold Oper.wp
        go_simp
        exact ⟨_, rfl, ⟨_, rfl, canonS rfl rfl⟩, _, rfl⟩
      · simp at hq; subst hq
        have g9 : act.tmps[9]?.getD undef = .float .f32 dd := hI.kept 9 (by kernel_rfl)
        clear hI hall
        unfold Oper.wp
        go_simp
        exact ⟨_, rfl, rfl, _, rfl⟩
      · simp at hq; subst hq
        obtain ⟨r10, g30, h10a⟩ := hI.has 10 30 rfl (hall ⟨10, .data⟩ (by simp) rfl)
        have g31 : act.tmps[31]?.getD undef = .float .f32 dd := hI.has 11 31 rfl (hall ⟨11, .data⟩ (by simp) rfl)
        clear hI hall
        unfold Oper.wp
        go_simp
        exact ⟨_, rfl, ⟨_, rfl, by rw [HVV2.out]; exact canonS h10a rfl⟩, _, rfl⟩
      · simp at hq; subst hq
        obtain ⟨r12, g32, h12a⟩ := hI.has 12 32 rfl (hall ⟨12, .data⟩ (by simp) rfl)
        clear hI hall
        unfold Oper.wp
        go_simp
        refine (s_l02NumberD _ vq _ h12a).mono ?_
        rintro e w4 ⟨r, m, rfl, hr, rfl⟩
        exact ⟨_, rfl, ⟨_, rfl, hr⟩, _, by first | rfl | exact World.drewN_drewN ..⟩
      · simp at hq; subst hq
        obtain ⟨r13, g33, h13a⟩ := hI.has 13 33 rfl (hall ⟨13, .data⟩ (by simp) rfl)
        clear hI hall
        unfold Oper.wp
        go_simp
        exact ⟨_, rfl, ⟨_, rfl, h13a⟩, _, rfl⟩
      · simp at hq; subst hq
        obtain ⟨r13, g33, h13a⟩ := hI.has 13 33 rfl (hall ⟨13, .data⟩ (by simp) rfl)
        clear hI hall
        unfold Oper.wp
        go_simp
        exact ⟨_, rfl, rfl, _, rfl⟩
      · simp at hq; subst hq
        obtain ⟨r14, g34, h14a⟩ := hI.has 14 34 rfl (hall ⟨14, .data⟩ (by simp) rfl)
        clear hI hall
        unfold Oper.wp
        go_simp
        exact ⟨_, rfl, ⟨_, rfl, h14a⟩, _, rfl⟩
      · simp at hq; subst hq
        have g35 : act.tmps[35]?.getD undef = .bool (fin .f32 vq) := hI.has 15 35 rfl (hall ⟨15, .data⟩ (by simp) rfl)
        clear hI hall
        unfold Oper.wp
        go_simp
        exact ⟨_, rfl, rfl, _, rfl⟩
      · simp at hq
    case hend =>
      intro listed act w3 hI hall
      obtain ⟨nn, rfl⟩ := hI.cls
      obtain ⟨r, g4, hr⟩ := hI.has 16 4 rfl (hall 16 (by decide))
      have g5 : act.tmps[5]?.getD undef = .bool (fin .f32 vq) := hI.has 17 5 rfl (hall 17 (by decide))
      have hd := hI.defers
      clear hI hall
      go_wp2
      refine bodyPost_ret (v := .tuple #[.float .f32 r, .bool (fin .f32 vq)]) (by simp [results, Try.results28, g4, g5, go_sem]) (by first | rfl | exact hd) ⟨r, by unfold slO; rw [HV.out, HSV.out]; rfl, by rw [hr]; unfold slR; rw [HV.out, HSV.out]; rfl, below_draws HBB.out _⟩
end Go.Proofs.Ytigfonnlhiedhac
