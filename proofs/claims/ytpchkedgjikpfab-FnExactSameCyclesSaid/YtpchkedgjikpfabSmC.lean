/- What cycles are the same: both sides. No statement is proved here. -/
import Derived.Test.YtpchkedgjikpfabRch
namespace Go.Proofs.Ytpchkedgjikpfab
open Go Go.RowKit
def smT (x y : Nat) (z : Bool) (x' y' : Nat) (z' : Bool) : Bool := decide (canon .f32 x = canon .f32 x') && (decide (canon .f32 y = canon .f32 y') && (z == z'))
def smAt (xs ys : List (Nat × Nat × Bool)) (k : Nat) : Bool := smT (loN xs k) (hiN xs k) (whB xs k) (loN ys k) (hiN ys k) (whB ys k)
def sameC (xs ys : List (Nat × Nat × Bool)) : Bool := decide (xs.length = ys.length) && alls (smAt xs ys) xs.length
theorem sameC_no {xs ys : List (Nat × Nat × Bool)} (h : ¬ xs.length = ys.length) : sameC xs ys = false := by unfold sameC; rw [decide_eq_false h]; rfl
theorem sameC_yes {xs ys : List (Nat × Nat × Bool)} (h : xs.length = ys.length) : sameC xs ys = alls (smAt xs ys) xs.length := by unfold sameC; rw [decide_eq_true h]; rfl
theorem sameC_a {xs ys : List (Nat × Nat × Bool)} {k : Nat} (h : alls (smAt xs ys) k = false) (hk : k ≤ xs.length) : sameC xs ys = false := by unfold sameC; rw [alls_no h hk, Bool.and_false]
set_option maxHeartbeats 4000000 in
theorem i_sameCycle (x y : Nat) (z : Bool) (x' y' : Nat) (z' : Bool) (w : World) (hx : canon .f32 x < 4294967296) (hy : canon .f32 y < 4294967296) (hx' : canon .f32 x' < 4294967296) (hy' : canon .f32 y' < 4294967296) :
    Calls Try.prog 61 #[.agg #[.float .f32 x, .float .f32 y, .bool z], .agg #[.float .f32 x', .float .f32 y', .bool z']] w fun e w' => e = .returned (.bool (smT x y z x' y' z')) ∧ Below w.heap.size w w' := by
  have HB : ∀ o1 o2, Hid (Below w.heap.size w ((w.alloc o1).alloc o2)) := fun _ _ => Lib.hid (((Below.refl _ _).alloc (Nat.le_refl _) _).alloc (by simp) _)
  have A0 := Lib.hid hx
  have A1 := Lib.hid hy
  have B0 := Lib.hid hx'
  have B1 := Lib.hid hy'
  clear hx hy hx' hy'
  go_enter Try.func61, Try.ntmps61
  go_wp2_with fail
  refine (i_SameNumber _ _ _ A0.out B0.out).mono ?_
  rintro e w' ⟨n1, rfl, rfl⟩
  cases p1 : decide (canon .f32 x = canon .f32 x')
  · go_wp2
    go_ret
    exact ⟨by unfold smT; rw [p1]; rfl, by repeat (first | exact (HB _ _).out | refine below_draws ?_ _)⟩
  · go_wp2_with fail
    refine (i_SameNumber _ _ _ A1.out B1.out).mono ?_
    rintro e w' ⟨n2, rfl, rfl⟩
    cases p2 : decide (canon .f32 y = canon .f32 y')
    · go_wp2
      go_ret
      exact ⟨by unfold smT; rw [p1, p2]; rfl, by repeat (first | exact (HB _ _).out | refine below_draws ?_ _)⟩
    · go_wp2
      go_ret
      exact ⟨by unfold smT; rw [p1, p2]; rfl, by repeat (first | exact (HB _ _).out | refine below_draws ?_ _)⟩
set_option maxHeartbeats 8000000 in
set_option maxRecDepth 100000 in
theorem lib_EqualFunc_cycle (A B : Option Addr) (cap cap' : Nat) (xs ys : List (Nat × Nat × Bool)) (w : World) (h : FlC w A xs) (h' : FlC w B ys) (hn : xs.length ≤ 1048576) (hn' : ys.length ≤ 1048576)
    (hx : ∀ k, k < xs.length → canon .f32 (loN xs k) < 4294967296 ∧ canon .f32 (hiN xs k) < 4294967296) (hy : ∀ k, k < ys.length → canon .f32 (loN ys k) < 4294967296 ∧ canon .f32 (hiN ys k) < 4294967296) :
    Calls Try.prog 60 #[.slice A xs.length cap, .slice B ys.length cap', .func (.func 61) #[] #[]] w fun e w' => e = .returned (.bool (sameC xs ys)) ∧ Below w.heap.size w w' := by
  have HF := Lib.hid h; clear h
  have HG := Lib.hid h'; clear h'
  have HX := Lib.hid hx; clear hx
  have HY := Lib.hid hy; clear hy
  by_cases hl : xs.length = ys.length
  · have e1 : ((xs.length : Int) != (ys.length : Int)) = false := by simp; omega
    have HV := Lib.hid (sameC_yes hl)
    have hle : xs.length ≤ ys.length := by omega
    have HNo : Hid (∀ k, alls (smAt xs ys) k = false → k ≤ xs.length → sameC xs ys = false) := Lib.hid (fun k h hk => sameC_a h hk)
    clear hl
    go_enter Try.func60, Try.ntmps60
    go_wp2
    go_loopw [17] (fun i wr => ∃ k : Nat, k ≤ xs.length ∧ i = .int .i64 k ∧ Hid (alls (smAt xs ys) k = true) ∧ Hid (Below w.heap.size w wr)) (fun i _ => xs.length - (intOf i).toNat)
    case atStart => exact ⟨0, Nat.zero_le _, rfl, rfl, Lib.hid (Below.refl _ _)⟩
    case round =>
      obtain ⟨k, hk, rfl, hr, HBW⟩ := hrel
      clear e1
      by_cases hlt : k < xs.length
      · have hlt2 : k < ys.length := by omega
        obtain ⟨b, off, rfl, hb, hc0, hc1, hc2⟩ := (HF.out.below HBW.out).at_ hlt
        have HG1 : ∀ o1, Hid (FlC (wr.alloc o1) B ys) := fun o1 => Lib.hid (HG.out.below (HBW.out.alloc HBW.out.size o1))
        obtain ⟨b', off', rfl, hb', -⟩ := HG.out.at_ hlt2
        have hd0 := fun o1 => ((HG1 o1).out.same hlt2).1
        have hd1 := fun o1 => ((HG1 o1).out.same hlt2).2.1
        have hd2 := fun o1 => ((HG1 o1).out.same hlt2).2.2
        have HB2 : ∀ o1 o2, Hid (Below w.heap.size w ((wr.alloc o1).alloc o2)) := fun o1 o2 => Lib.hid ((HBW.out.alloc HBW.out.size o1).alloc (by have := HBW.out.size; simp; omega) o2)
        have HA : Hid (alls (smAt xs ys) (k + 1) = smT (loN xs k) (hiN xs k) (whB xs k) (loN ys k) (hiN ys k) (whB ys k)) := Lib.hid (by show (alls _ k && _) = _; rw [hr.out]; rfl)
        have AX := Lib.hid (HX.out k hlt)
        have AY := Lib.hid (HY.out k hlt2)
        generalize loN xs k = x at hc0 HA AX
        generalize hiN xs k = y at hc1 HA AX
        generalize whB xs k = z at hc2 HA
        generalize loN ys k = x' at hd0 HA AY
        generalize hiN ys k = y' at hd1 HA AY
        generalize whB ys k = z' at hd2 HA
        clear hb hb' HG1
        go_wp2_with fail
        refine (i_sameCycle x y z x' y' z' _ AX.out.1 AX.out.2 AY.out.1 AY.out.2).mono ?_
        rintro e w3 ⟨rfl, b3⟩
        have B3 : Hid (Below w.heap.size w w3) := Lib.hid (below_of (HB2 _ _).out (HB2 _ _).out.size b3)
        clear b3 hc0 hc1 hc2 hd0 hd1 hd2 HB2
        cases hp : smT x y z x' y' z'
        · have HN : Hid (sameC xs ys = false) := Lib.hid (HNo.out (k + 1) (by rw [HA.out, hp]) (by omega))
          clear hp
          go_wp2
          go_ret
          exact ⟨by rw [HN.out]; rfl, B3.out⟩
        · have HQ : Hid (alls (smAt xs ys) (k + 1) = true) := Lib.hid (by rw [HA.out, hp])
          clear hp
          go_wp2
          go_roundw
          case rel => exact ⟨k + 1, by omega, by go_num, HQ, B3⟩
          case measure => simp [intOf]; omega
      · have hkk : k = xs.length := by omega
        subst hkk
        have HN : Hid (sameC xs ys = true) := Lib.hid (by rw [HV.out, hr.out])
        go_wp2
        go_ret
        exact ⟨by rw [HN.out]; rfl, HBW.out⟩
  · have e1 : ((xs.length : Int) != (ys.length : Int)) = true := by rw [bne_iff_ne]; omega
    have HN := Lib.hid (sameC_no hl)
    clear hl
    go_enter Try.func60, Try.ntmps60
    go_wp2
    go_ret
    exact ⟨by rw [HN.out]; rfl, Below.refl _ _⟩
theorem i_SameCycles (A B : Option Addr) (cap cap' : Nat) (xs ys : List (Nat × Nat × Bool)) (w : World) (h : FlC w A xs) (h' : FlC w B ys) (hn : xs.length ≤ 1048576) (hn' : ys.length ≤ 1048576)
    (hx : ∀ k, k < xs.length → canon .f32 (loN xs k) < 4294967296 ∧ canon .f32 (hiN xs k) < 4294967296) (hy : ∀ k, k < ys.length → canon .f32 (loN ys k) < 4294967296 ∧ canon .f32 (hiN ys k) < 4294967296) :
    Calls Try.prog 20 #[.slice A xs.length cap, .slice B ys.length cap'] w fun e w' => e = .returned (.bool (sameC xs ys)) ∧ Below w.heap.size w w' := by
  have H := Lib.hid (lib_EqualFunc_cycle A B cap cap' xs ys w h h' hn hn' hx hy); clear h h' hx hy
  go_enter Try.func20, Try.ntmps20
  go_wp2_with fail
  refine H.out.mono ?_
  rintro e w1 ⟨rfl, b1⟩
  have B1 := Lib.hid b1; clear b1
  go_wp2
  go_ret
  exact ⟨rfl, B1.out⟩
set_option maxHeartbeats 8000000 in
set_option maxRecDepth 100000 in
theorem s_SameCycles (A B : Option Addr) (cap cap' : Nat) (xs ys : List (Nat × Nat × Bool)) (w : World) (h : FlC w A xs) (h' : FlC w B ys) (hn : xs.length ≤ 1048576) (hn' : ys.length ≤ 1048576)
    (hx : ∀ k, k < xs.length → canon .f32 (loN xs k) < 4294967296 ∧ canon .f32 (hiN xs k) < 4294967296) (hy : ∀ k, k < ys.length → canon .f32 (loN ys k) < 4294967296 ∧ canon .f32 (hiN ys k) < 4294967296) :
    Calls Try.prog 19 #[.slice A xs.length cap, .slice B ys.length cap'] w fun e w' => e = .returned (.bool (sameC xs ys)) ∧ Below w.heap.size w w' := by
  have HF := Lib.hid h; clear h
  have HG := Lib.hid h'; clear h'
  have HX := Lib.hid hx; clear hx
  have HY := Lib.hid hy; clear hy
  have hst : ∀ m, ∃ nn, { (w.drewN m) with drawn := (w.drewN m).drawn + 1 } = w.drewN nn := fun m => ⟨m + 1, rfl⟩
  by_cases hl : xs.length = ys.length
  · have e1 : ((xs.length : Int) != (ys.length : Int)) = false := by simp; omega
    have HV := Lib.hid (sameC_yes hl)
    have hle : xs.length ≤ ys.length := by omega
    have HNo : Hid (∀ k, alls (smAt xs ys) k = false → k ≤ xs.length → sameC xs ys = false) := Lib.hid (fun k h hk => sameC_a h hk)
    clear hl
    go_enter Try.func19, Try.ntmps19
    go_wp2
    go_loopw [13] (fun i wr => ∃ k n : Nat, k ≤ xs.length ∧ i = .int .i64 k ∧ Hid (alls (smAt xs ys) k = true) ∧ wr = w.drewN n) (fun i _ => xs.length - (intOf i).toNat)
    case atStart => exact ⟨0, 0, Nat.zero_le _, rfl, rfl, rfl⟩
    case round =>
      obtain ⟨k, n, hk, rfl, hr, rfl⟩ := hrel
      clear e1
      by_cases hlt : k < xs.length
      · have hlt2 : k < ys.length := by omega
        obtain ⟨b, off, rfl, hb, hc0, hc1, hc2⟩ := HF.out.at_ hlt
        obtain ⟨b', off', rfl, hb', hd0, hd1, hd2⟩ := HG.out.at_ hlt2
        have HA : Hid (alls (smAt xs ys) (k + 1) = smAt xs ys k) := Lib.hid (by show (alls _ k && _) = _; rw [hr.out]; rfl)
        have HE : Hid (smAt xs ys k = (decide (canon .f32 (loN xs k) = canon .f32 (loN ys k)) && (decide (canon .f32 (hiN xs k) = canon .f32 (hiN ys k)) && (whB xs k == whB ys k)))) := rfl
        have AX := Lib.hid (HX.out k hlt)
        have AY := Lib.hid (HY.out k hlt2)
        generalize loN xs k = x at hc0 HE AX
        generalize hiN xs k = y at hc1 HE AX
        generalize whB xs k = z at hc2 HE
        generalize loN ys k = x' at hd0 HE AY
        generalize hiN ys k = y' at hd1 HE AY
        generalize whB ys k = z' at hd2 HE
        have Q0 : ∀ W, Hid (Calls Try.prog 59 #[.float .f32 x, .float .f32 x'] W fun e w' => e = .returned (.bool (decide (canon .f32 x = canon .f32 x'))) ∧ w' = W) := fun W => Lib.hid (s_l01Same _ _ _ AX.out.1 AY.out.1)
        have Q1 : ∀ W, Hid (Calls Try.prog 59 #[.float .f32 y, .float .f32 y'] W fun e w' => e = .returned (.bool (decide (canon .f32 y = canon .f32 y'))) ∧ w' = W) := fun W => Lib.hid (s_l01Same _ _ _ AX.out.2 AY.out.2)
        generalize decide (canon .f32 x = canon .f32 x') = t0 at Q0 HE
        generalize decide (canon .f32 y = canon .f32 y') = t1 at Q1 HE
        obtain ⟨t2, ht2⟩ : ∃ t, t = !(z == z') := ⟨_, rfl⟩
        have P2 : Hid ((!(z == z')) = t2) := Lib.hid ht2.symm
        have HE2 : Hid ((z == z') = !t2) := Lib.hid (by rw [ht2, Bool.not_not])
        clear ht2
        rw [HE2.out] at HE
        clear hb hb'
        go_wp2_with fail
        refine wp_region_inv3 (fun iq v => match iq with
          | 0 => v = .slice (some ⟨b, off, none⟩) xs.length cap
          | 1 => v = .int .i64 k
          | 2 => v = .pointer (some ⟨b, off + k * 3, none⟩)
          | 3 => v = .pointer (some ⟨b, off + k * 3, none⟩)
          | 4 => v = .float .f32 x
          | 5 => v = .slice (some ⟨b', off', none⟩) ys.length cap'
          | 6 => v = .int .i64 k
          | 7 => v = .pointer (some ⟨b', off' + k * 3, none⟩)
          | 8 => v = .pointer (some ⟨b', off' + k * 3, none⟩)
          | 9 => v = .float .f32 x'
          | 10 => v = .bool t0
          | 11 => v = .bool (!t0)
          | 12 => v = .bool (!t0)
          | 13 => Gd ((!t0)) false (v = .slice (some ⟨b, off, none⟩) xs.length cap) v
          | 14 => Gd ((!t0)) false (v = .int .i64 k) v
          | 15 => Gd ((!t0)) false (v = .pointer (some ⟨b, off + k * 3, none⟩)) v
          | 16 => Gd ((!t0)) false (v = .pointer (some ⟨b, off + k * 3 + 1, none⟩)) v
          | 17 => Gd ((!t0)) false (v = .float .f32 y) v
          | 18 => Gd ((!t0)) false (v = .slice (some ⟨b', off', none⟩) ys.length cap') v
          | 19 => Gd ((!t0)) false (v = .int .i64 k) v
          | 20 => Gd ((!t0)) false (v = .pointer (some ⟨b', off' + k * 3, none⟩)) v
          | 21 => Gd ((!t0)) false (v = .pointer (some ⟨b', off' + k * 3 + 1, none⟩)) v
          | 22 => Gd ((!t0)) false (v = .float .f32 y') v
          | 23 => Gd ((!t0)) false (v = .bool t1) v
          | 24 => Gd ((!t0)) false (v = .bool (!t1)) v
          | 25 => v = .bool ((!t0) || ((!t1)))
          | 26 => v = .bool ((!t0) || ((!t1)))
          | 27 => Gd (((!t0) || ((!t1)))) false (v = .slice (some ⟨b, off, none⟩) xs.length cap) v
          | 28 => Gd (((!t0) || ((!t1)))) false (v = .int .i64 k) v
          | 29 => Gd (((!t0) || ((!t1)))) false (v = .pointer (some ⟨b, off + k * 3, none⟩)) v
          | 30 => Gd (((!t0) || ((!t1)))) false (v = .pointer (some ⟨b, off + k * 3 + 2, none⟩)) v
          | 31 => Gd (((!t0) || ((!t1)))) false (v = .bool z) v
          | 32 => Gd (((!t0) || ((!t1)))) false (v = .slice (some ⟨b', off', none⟩) ys.length cap') v
          | 33 => Gd (((!t0) || ((!t1)))) false (v = .int .i64 k) v
          | 34 => Gd (((!t0) || ((!t1)))) false (v = .pointer (some ⟨b', off' + k * 3, none⟩)) v
          | 35 => Gd (((!t0) || ((!t1)))) false (v = .pointer (some ⟨b', off' + k * 3 + 2, none⟩)) v
          | 36 => Gd (((!t0) || ((!t1)))) false (v = .bool z') v
          | 37 => Gd (((!t0) || ((!t1)))) false (v = .bool t2) v
          | 38 => v = .bool (((!t0) || ((!t1))) || t2)
          | _ => False) (fun _ ww => ∃ nn, ww = w.drewN nn) (by kernel_rfl) (by kernel_rfl) (hst _) ?hop ?hend
        case hop =>
          intro q o hq listed act w3 hI hnot hcl hall
          obtain ⟨nn, rfl⟩ := hI.cls
          rcases q with _ | _ | _ | _ | _ | _ | _ | _ | _ | _ | _ | _ | _ | _ | _ | _ | _ | _ | _ | _ | _ | _ | _ | _ | _ | _ | _ | _ | _ | _ | _ | _ | _ | _ | _ | _ | _ | _ | _ | q
          · simp at hq; subst hq
            have g0 : act.tmps[0]?.getD undef = .slice (some ⟨b, off, none⟩) xs.length cap := hI.kept 0 (by kernel_rfl)
            clear hI hall hnot hcl
            refine .inl ⟨wanted_none rfl, ?_⟩
            unfold Oper.wp
            go_simp
            all_goals exact ⟨_, rfl, rfl, ⟨_, rfl⟩⟩
          · simp at hq; subst hq
            have g5 : act.tmps[5]?.getD undef = .int .i64 k := hI.kept 5 (by kernel_rfl)
            clear hI hall hnot hcl
            refine .inl ⟨wanted_none rfl, ?_⟩
            unfold Oper.wp
            go_simp
            all_goals exact ⟨_, rfl, rfl, ⟨_, rfl⟩⟩
          · simp at hq; subst hq
            have g16 : act.tmps[16]?.getD undef = .slice (some ⟨b, off, none⟩) xs.length cap := hI.has 0 16 rfl (hall ⟨0, .data⟩ (by simp) rfl)
            have g17 : act.tmps[17]?.getD undef = .int .i64 k := hI.has 1 17 rfl (hall ⟨1, .data⟩ (by simp) rfl)
            clear hI hall hnot hcl
            refine .inl ⟨wanted_none rfl, ?_⟩
            unfold Oper.wp
            go_simp
            all_goals exact ⟨_, rfl, rfl, ⟨_, rfl⟩⟩
          · simp at hq; subst hq
            have g18 : act.tmps[18]?.getD undef = .pointer (some ⟨b, off + k * 3, none⟩) := hI.has 2 18 rfl (hall ⟨2, .data⟩ (by simp) rfl)
            clear hI hall hnot hcl
            refine .inl ⟨wanted_none rfl, ?_⟩
            unfold Oper.wp
            go_simp
            all_goals exact ⟨_, rfl, rfl, ⟨_, rfl⟩⟩
          · simp at hq; subst hq
            have g19 : act.tmps[19]?.getD undef = .pointer (some ⟨b, off + k * 3, none⟩) := hI.has 3 19 rfl (hall ⟨3, .data⟩ (by simp) rfl)
            clear hI hall hnot hcl
            refine .inl ⟨wanted_none rfl, ?_⟩
            unfold Oper.wp
            go_simp
            all_goals exact ⟨_, rfl, rfl, ⟨_, rfl⟩⟩
          · simp at hq; subst hq
            have g1 : act.tmps[1]?.getD undef = .slice (some ⟨b', off', none⟩) ys.length cap' := hI.kept 1 (by kernel_rfl)
            clear hI hall hnot hcl
            refine .inl ⟨wanted_none rfl, ?_⟩
            unfold Oper.wp
            go_simp
            all_goals exact ⟨_, rfl, rfl, ⟨_, rfl⟩⟩
          · simp at hq; subst hq
            have g5 : act.tmps[5]?.getD undef = .int .i64 k := hI.kept 5 (by kernel_rfl)
            clear hI hall hnot hcl
            refine .inl ⟨wanted_none rfl, ?_⟩
            unfold Oper.wp
            go_simp
            all_goals exact ⟨_, rfl, rfl, ⟨_, rfl⟩⟩
          · simp at hq; subst hq
            have g21 : act.tmps[21]?.getD undef = .slice (some ⟨b', off', none⟩) ys.length cap' := hI.has 5 21 rfl (hall ⟨5, .data⟩ (by simp) rfl)
            have g22 : act.tmps[22]?.getD undef = .int .i64 k := hI.has 6 22 rfl (hall ⟨6, .data⟩ (by simp) rfl)
            clear hI hall hnot hcl
            refine .inl ⟨wanted_none rfl, ?_⟩
            unfold Oper.wp
            go_simp
            all_goals exact ⟨_, rfl, rfl, ⟨_, rfl⟩⟩
          · simp at hq; subst hq
            have g23 : act.tmps[23]?.getD undef = .pointer (some ⟨b', off' + k * 3, none⟩) := hI.has 7 23 rfl (hall ⟨7, .data⟩ (by simp) rfl)
            clear hI hall hnot hcl
            refine .inl ⟨wanted_none rfl, ?_⟩
            unfold Oper.wp
            go_simp
            all_goals exact ⟨_, rfl, rfl, ⟨_, rfl⟩⟩
          · simp at hq; subst hq
            have g24 : act.tmps[24]?.getD undef = .pointer (some ⟨b', off' + k * 3, none⟩) := hI.has 8 24 rfl (hall ⟨8, .data⟩ (by simp) rfl)
            clear hI hall hnot hcl
            refine .inl ⟨wanted_none rfl, ?_⟩
            unfold Oper.wp
            go_simp
            all_goals exact ⟨_, rfl, rfl, ⟨_, rfl⟩⟩
          · simp at hq; subst hq
            have g20 : act.tmps[20]?.getD undef = .float .f32 x := hI.has 4 20 rfl (hall ⟨4, .data⟩ (by simp) rfl)
            have g25 : act.tmps[25]?.getD undef = .float .f32 x' := hI.has 9 25 rfl (hall ⟨9, .data⟩ (by simp) rfl)
            clear hI hall hnot hcl
            refine .inl ⟨wanted_none rfl, ?_⟩
            unfold Oper.wp
            go_simp
            refine (Q0 _).out.mono ?_
            rintro e w4 ⟨rfl, rfl⟩
            exact ⟨_, rfl, rfl, ⟨_, rfl⟩⟩
          · simp at hq; subst hq
            have g26 : act.tmps[26]?.getD undef = .bool t0 := hI.has 10 26 rfl (hall ⟨10, .data⟩ (by simp) rfl)
            clear hI hall hnot hcl
            refine .inl ⟨wanted_none rfl, ?_⟩
            unfold Oper.wp
            go_simp
            all_goals exact ⟨_, rfl, rfl, ⟨_, rfl⟩⟩
          · simp at hq; subst hq
            have g27 : act.tmps[27]?.getD undef = .bool (!t0) := hI.has 11 27 rfl (hall ⟨11, .data⟩ (by simp) rfl)
            clear hI hall hnot hcl
            refine .inl ⟨wanted_none rfl, ?_⟩
            unfold Oper.wp
            go_simp
            all_goals exact ⟨_, rfl, rfl, ⟨_, rfl⟩⟩
          · simp at hq; subst hq
            have gg : act.tmps[28]?.getD undef = .bool ((!t0)) := hI.has 12 28 rfl (hall ⟨12, .guard⟩ (by simp) rfl)
            rcases Bool.eq_false_or_eq_true ((!t0)) with hc | hc
            case inl =>
              exact .inr ⟨(wanted_of rfl rfl (gg.trans (by rw [hc]))).trans rfl, Gd.no hc, ⟨_, rfl⟩⟩
            have g0 : act.tmps[0]?.getD undef = .slice (some ⟨b, off, none⟩) xs.length cap := hI.kept 0 (by kernel_rfl)
            clear hI hall hnot hcl
            refine .inl ⟨(wanted_of rfl rfl (gg.trans (by rw [hc]))).trans rfl, ?_⟩
            clear gg
            unfold Oper.wp
            go_simp
            all_goals exact ⟨_, rfl, Gd.yes (by first | rfl | exact hc) rfl, ⟨_, rfl⟩⟩
          · simp at hq; subst hq
            have gg : act.tmps[28]?.getD undef = .bool ((!t0)) := hI.has 12 28 rfl (hall ⟨12, .guard⟩ (by simp) rfl)
            rcases Bool.eq_false_or_eq_true ((!t0)) with hc | hc
            case inl =>
              exact .inr ⟨(wanted_of rfl rfl (gg.trans (by rw [hc]))).trans rfl, Gd.no hc, ⟨_, rfl⟩⟩
            have g5 : act.tmps[5]?.getD undef = .int .i64 k := hI.kept 5 (by kernel_rfl)
            clear hI hall hnot hcl
            refine .inl ⟨(wanted_of rfl rfl (gg.trans (by rw [hc]))).trans rfl, ?_⟩
            clear gg
            unfold Oper.wp
            go_simp
            all_goals exact ⟨_, rfl, Gd.yes (by first | rfl | exact hc) rfl, ⟨_, rfl⟩⟩
          · simp at hq; subst hq
            have gg : act.tmps[28]?.getD undef = .bool ((!t0)) := hI.has 12 28 rfl (hall ⟨12, .guard⟩ (by simp) rfl)
            rcases Bool.eq_false_or_eq_true ((!t0)) with hc | hc
            case inl =>
              exact .inr ⟨(wanted_of rfl rfl (gg.trans (by rw [hc]))).trans rfl, Gd.no hc, ⟨_, rfl⟩⟩
            have g29 : act.tmps[29]?.getD undef = .slice (some ⟨b, off, none⟩) xs.length cap := Gd.get (hI.has 13 29 rfl (hall ⟨13, .data⟩ (by simp) rfl)) hc
            have g30 : act.tmps[30]?.getD undef = .int .i64 k := Gd.get (hI.has 14 30 rfl (hall ⟨14, .data⟩ (by simp) rfl)) hc
            clear hI hall hnot hcl
            refine .inl ⟨(wanted_of rfl rfl (gg.trans (by rw [hc]))).trans rfl, ?_⟩
            clear gg
            unfold Oper.wp
            go_simp
            all_goals exact ⟨_, rfl, Gd.yes (by first | rfl | exact hc) rfl, ⟨_, rfl⟩⟩
          · simp at hq; subst hq
            have gg : act.tmps[28]?.getD undef = .bool ((!t0)) := hI.has 12 28 rfl (hall ⟨12, .guard⟩ (by simp) rfl)
            rcases Bool.eq_false_or_eq_true ((!t0)) with hc | hc
            case inl =>
              exact .inr ⟨(wanted_of rfl rfl (gg.trans (by rw [hc]))).trans rfl, Gd.no hc, ⟨_, rfl⟩⟩
            have g31 : act.tmps[31]?.getD undef = .pointer (some ⟨b, off + k * 3, none⟩) := Gd.get (hI.has 15 31 rfl (hall ⟨15, .data⟩ (by simp) rfl)) hc
            clear hI hall hnot hcl
            refine .inl ⟨(wanted_of rfl rfl (gg.trans (by rw [hc]))).trans rfl, ?_⟩
            clear gg
            unfold Oper.wp
            go_simp
            all_goals exact ⟨_, rfl, Gd.yes (by first | rfl | exact hc) rfl, ⟨_, rfl⟩⟩
          · simp at hq; subst hq
            have gg : act.tmps[28]?.getD undef = .bool ((!t0)) := hI.has 12 28 rfl (hall ⟨12, .guard⟩ (by simp) rfl)
            rcases Bool.eq_false_or_eq_true ((!t0)) with hc | hc
            case inl =>
              exact .inr ⟨(wanted_of rfl rfl (gg.trans (by rw [hc]))).trans rfl, Gd.no hc, ⟨_, rfl⟩⟩
            have g32 : act.tmps[32]?.getD undef = .pointer (some ⟨b, off + k * 3 + 1, none⟩) := Gd.get (hI.has 16 32 rfl (hall ⟨16, .data⟩ (by simp) rfl)) hc
            clear hI hall hnot hcl
            refine .inl ⟨(wanted_of rfl rfl (gg.trans (by rw [hc]))).trans rfl, ?_⟩
            clear gg
            unfold Oper.wp
            go_simp
            all_goals exact ⟨_, rfl, Gd.yes (by first | rfl | exact hc) rfl, ⟨_, rfl⟩⟩
          · simp at hq; subst hq
            have gg : act.tmps[28]?.getD undef = .bool ((!t0)) := hI.has 12 28 rfl (hall ⟨12, .guard⟩ (by simp) rfl)
            rcases Bool.eq_false_or_eq_true ((!t0)) with hc | hc
            case inl =>
              exact .inr ⟨(wanted_of rfl rfl (gg.trans (by rw [hc]))).trans rfl, Gd.no hc, ⟨_, rfl⟩⟩
            have g1 : act.tmps[1]?.getD undef = .slice (some ⟨b', off', none⟩) ys.length cap' := hI.kept 1 (by kernel_rfl)
            clear hI hall hnot hcl
            refine .inl ⟨(wanted_of rfl rfl (gg.trans (by rw [hc]))).trans rfl, ?_⟩
            clear gg
            unfold Oper.wp
            go_simp
            all_goals exact ⟨_, rfl, Gd.yes (by first | rfl | exact hc) rfl, ⟨_, rfl⟩⟩
          · simp at hq; subst hq
            have gg : act.tmps[28]?.getD undef = .bool ((!t0)) := hI.has 12 28 rfl (hall ⟨12, .guard⟩ (by simp) rfl)
            rcases Bool.eq_false_or_eq_true ((!t0)) with hc | hc
            case inl =>
              exact .inr ⟨(wanted_of rfl rfl (gg.trans (by rw [hc]))).trans rfl, Gd.no hc, ⟨_, rfl⟩⟩
            have g5 : act.tmps[5]?.getD undef = .int .i64 k := hI.kept 5 (by kernel_rfl)
            clear hI hall hnot hcl
            refine .inl ⟨(wanted_of rfl rfl (gg.trans (by rw [hc]))).trans rfl, ?_⟩
            clear gg
            unfold Oper.wp
            go_simp
            all_goals exact ⟨_, rfl, Gd.yes (by first | rfl | exact hc) rfl, ⟨_, rfl⟩⟩
          · simp at hq; subst hq
            have gg : act.tmps[28]?.getD undef = .bool ((!t0)) := hI.has 12 28 rfl (hall ⟨12, .guard⟩ (by simp) rfl)
            rcases Bool.eq_false_or_eq_true ((!t0)) with hc | hc
            case inl =>
              exact .inr ⟨(wanted_of rfl rfl (gg.trans (by rw [hc]))).trans rfl, Gd.no hc, ⟨_, rfl⟩⟩
            have g34 : act.tmps[34]?.getD undef = .slice (some ⟨b', off', none⟩) ys.length cap' := Gd.get (hI.has 18 34 rfl (hall ⟨18, .data⟩ (by simp) rfl)) hc
            have g35 : act.tmps[35]?.getD undef = .int .i64 k := Gd.get (hI.has 19 35 rfl (hall ⟨19, .data⟩ (by simp) rfl)) hc
            clear hI hall hnot hcl
            refine .inl ⟨(wanted_of rfl rfl (gg.trans (by rw [hc]))).trans rfl, ?_⟩
            clear gg
            unfold Oper.wp
            go_simp
            all_goals exact ⟨_, rfl, Gd.yes (by first | rfl | exact hc) rfl, ⟨_, rfl⟩⟩
          · simp at hq; subst hq
            have gg : act.tmps[28]?.getD undef = .bool ((!t0)) := hI.has 12 28 rfl (hall ⟨12, .guard⟩ (by simp) rfl)
            rcases Bool.eq_false_or_eq_true ((!t0)) with hc | hc
            case inl =>
              exact .inr ⟨(wanted_of rfl rfl (gg.trans (by rw [hc]))).trans rfl, Gd.no hc, ⟨_, rfl⟩⟩
            have g36 : act.tmps[36]?.getD undef = .pointer (some ⟨b', off' + k * 3, none⟩) := Gd.get (hI.has 20 36 rfl (hall ⟨20, .data⟩ (by simp) rfl)) hc
            clear hI hall hnot hcl
            refine .inl ⟨(wanted_of rfl rfl (gg.trans (by rw [hc]))).trans rfl, ?_⟩
            clear gg
            unfold Oper.wp
            go_simp
            all_goals exact ⟨_, rfl, Gd.yes (by first | rfl | exact hc) rfl, ⟨_, rfl⟩⟩
          · simp at hq; subst hq
            have gg : act.tmps[28]?.getD undef = .bool ((!t0)) := hI.has 12 28 rfl (hall ⟨12, .guard⟩ (by simp) rfl)
            rcases Bool.eq_false_or_eq_true ((!t0)) with hc | hc
            case inl =>
              exact .inr ⟨(wanted_of rfl rfl (gg.trans (by rw [hc]))).trans rfl, Gd.no hc, ⟨_, rfl⟩⟩
            have g37 : act.tmps[37]?.getD undef = .pointer (some ⟨b', off' + k * 3 + 1, none⟩) := Gd.get (hI.has 21 37 rfl (hall ⟨21, .data⟩ (by simp) rfl)) hc
            clear hI hall hnot hcl
            refine .inl ⟨(wanted_of rfl rfl (gg.trans (by rw [hc]))).trans rfl, ?_⟩
            clear gg
            unfold Oper.wp
            go_simp
            all_goals exact ⟨_, rfl, Gd.yes (by first | rfl | exact hc) rfl, ⟨_, rfl⟩⟩
          · simp at hq; subst hq
            have gg : act.tmps[28]?.getD undef = .bool ((!t0)) := hI.has 12 28 rfl (hall ⟨12, .guard⟩ (by simp) rfl)
            rcases Bool.eq_false_or_eq_true ((!t0)) with hc | hc
            case inl =>
              exact .inr ⟨(wanted_of rfl rfl (gg.trans (by rw [hc]))).trans rfl, Gd.no hc, ⟨_, rfl⟩⟩
            have g33 : act.tmps[33]?.getD undef = .float .f32 y := Gd.get (hI.has 17 33 rfl (hall ⟨17, .data⟩ (by simp) rfl)) hc
            have g38 : act.tmps[38]?.getD undef = .float .f32 y' := Gd.get (hI.has 22 38 rfl (hall ⟨22, .data⟩ (by simp) rfl)) hc
            clear hI hall hnot hcl
            refine .inl ⟨(wanted_of rfl rfl (gg.trans (by rw [hc]))).trans rfl, ?_⟩
            clear gg
            unfold Oper.wp
            go_simp
            refine (Q1 _).out.mono ?_
            rintro e w4 ⟨rfl, rfl⟩
            exact ⟨_, rfl, Gd.yes (by first | rfl | exact hc) rfl, ⟨_, rfl⟩⟩
          · simp at hq; subst hq
            have gg : act.tmps[28]?.getD undef = .bool ((!t0)) := hI.has 12 28 rfl (hall ⟨12, .guard⟩ (by simp) rfl)
            rcases Bool.eq_false_or_eq_true ((!t0)) with hc | hc
            case inl =>
              exact .inr ⟨(wanted_of rfl rfl (gg.trans (by rw [hc]))).trans rfl, Gd.no hc, ⟨_, rfl⟩⟩
            have g39 : act.tmps[39]?.getD undef = .bool t1 := Gd.get (hI.has 23 39 rfl (hall ⟨23, .data⟩ (by simp) rfl)) hc
            clear hI hall hnot hcl
            refine .inl ⟨(wanted_of rfl rfl (gg.trans (by rw [hc]))).trans rfl, ?_⟩
            clear gg
            unfold Oper.wp
            go_simp
            all_goals exact ⟨_, rfl, Gd.yes (by first | rfl | exact hc) rfl, ⟨_, rfl⟩⟩
          · simp at hq; subst hq
            have g28 : act.tmps[28]?.getD undef = .bool (!t0) := hI.has 12 28 rfl (hall ⟨12, .data⟩ (by simp) rfl)
            have G40 := hI.has 24 40 rfl (hall ⟨24, .data⟩ (by simp) rfl)
            clear hI hall hnot hcl
            refine .inl ⟨wanted_none rfl, ?_⟩
            unfold Oper.wp
            rcases Bool.eq_false_or_eq_true ((!t0)) with hc | hc
            · rw [hc] at g28
              have g40 := Gd.un G40 hc
              clear G40
              go_simp
              all_goals exact ⟨_, rfl, by first | rfl | (rw [hc]; rfl), ⟨_, rfl⟩⟩
            · rw [hc] at g28
              have g40 := Gd.get G40 hc
              clear G40
              go_simp
              all_goals exact ⟨_, rfl, by first | rfl | (rw [hc]; rfl), ⟨_, rfl⟩⟩
          · simp at hq; subst hq
            have g41 : act.tmps[41]?.getD undef = .bool ((!t0) || ((!t1))) := hI.has 25 41 rfl (hall ⟨25, .data⟩ (by simp) rfl)
            clear hI hall hnot hcl
            refine .inl ⟨wanted_none rfl, ?_⟩
            unfold Oper.wp
            go_simp
            all_goals exact ⟨_, rfl, rfl, ⟨_, rfl⟩⟩
          · simp at hq; subst hq
            have gg : act.tmps[42]?.getD undef = .bool (((!t0) || ((!t1)))) := hI.has 26 42 rfl (hall ⟨26, .guard⟩ (by simp) rfl)
            rcases Bool.eq_false_or_eq_true (((!t0) || ((!t1)))) with hc | hc
            case inl =>
              exact .inr ⟨(wanted_of rfl rfl (gg.trans (by rw [hc]))).trans rfl, Gd.no hc, ⟨_, rfl⟩⟩
            have g0 : act.tmps[0]?.getD undef = .slice (some ⟨b, off, none⟩) xs.length cap := hI.kept 0 (by kernel_rfl)
            clear hI hall hnot hcl
            refine .inl ⟨(wanted_of rfl rfl (gg.trans (by rw [hc]))).trans rfl, ?_⟩
            clear gg
            unfold Oper.wp
            go_simp
            all_goals exact ⟨_, rfl, Gd.yes (by first | rfl | exact hc) rfl, ⟨_, rfl⟩⟩
          · simp at hq; subst hq
            have gg : act.tmps[42]?.getD undef = .bool (((!t0) || ((!t1)))) := hI.has 26 42 rfl (hall ⟨26, .guard⟩ (by simp) rfl)
            rcases Bool.eq_false_or_eq_true (((!t0) || ((!t1)))) with hc | hc
            case inl =>
              exact .inr ⟨(wanted_of rfl rfl (gg.trans (by rw [hc]))).trans rfl, Gd.no hc, ⟨_, rfl⟩⟩
            have g5 : act.tmps[5]?.getD undef = .int .i64 k := hI.kept 5 (by kernel_rfl)
            clear hI hall hnot hcl
            refine .inl ⟨(wanted_of rfl rfl (gg.trans (by rw [hc]))).trans rfl, ?_⟩
            clear gg
            unfold Oper.wp
            go_simp
            all_goals exact ⟨_, rfl, Gd.yes (by first | rfl | exact hc) rfl, ⟨_, rfl⟩⟩
          · simp at hq; subst hq
            have gg : act.tmps[42]?.getD undef = .bool (((!t0) || ((!t1)))) := hI.has 26 42 rfl (hall ⟨26, .guard⟩ (by simp) rfl)
            rcases Bool.eq_false_or_eq_true (((!t0) || ((!t1)))) with hc | hc
            case inl =>
              exact .inr ⟨(wanted_of rfl rfl (gg.trans (by rw [hc]))).trans rfl, Gd.no hc, ⟨_, rfl⟩⟩
            have g43 : act.tmps[43]?.getD undef = .slice (some ⟨b, off, none⟩) xs.length cap := Gd.get (hI.has 27 43 rfl (hall ⟨27, .data⟩ (by simp) rfl)) hc
            have g44 : act.tmps[44]?.getD undef = .int .i64 k := Gd.get (hI.has 28 44 rfl (hall ⟨28, .data⟩ (by simp) rfl)) hc
            clear hI hall hnot hcl
            refine .inl ⟨(wanted_of rfl rfl (gg.trans (by rw [hc]))).trans rfl, ?_⟩
            clear gg
            unfold Oper.wp
            go_simp
            all_goals exact ⟨_, rfl, Gd.yes (by first | rfl | exact hc) rfl, ⟨_, rfl⟩⟩
          · simp at hq; subst hq
            have gg : act.tmps[42]?.getD undef = .bool (((!t0) || ((!t1)))) := hI.has 26 42 rfl (hall ⟨26, .guard⟩ (by simp) rfl)
            rcases Bool.eq_false_or_eq_true (((!t0) || ((!t1)))) with hc | hc
            case inl =>
              exact .inr ⟨(wanted_of rfl rfl (gg.trans (by rw [hc]))).trans rfl, Gd.no hc, ⟨_, rfl⟩⟩
            have g45 : act.tmps[45]?.getD undef = .pointer (some ⟨b, off + k * 3, none⟩) := Gd.get (hI.has 29 45 rfl (hall ⟨29, .data⟩ (by simp) rfl)) hc
            clear hI hall hnot hcl
            refine .inl ⟨(wanted_of rfl rfl (gg.trans (by rw [hc]))).trans rfl, ?_⟩
            clear gg
            unfold Oper.wp
            go_simp
            all_goals exact ⟨_, rfl, Gd.yes (by first | rfl | exact hc) rfl, ⟨_, rfl⟩⟩
          · simp at hq; subst hq
            have gg : act.tmps[42]?.getD undef = .bool (((!t0) || ((!t1)))) := hI.has 26 42 rfl (hall ⟨26, .guard⟩ (by simp) rfl)
            rcases Bool.eq_false_or_eq_true (((!t0) || ((!t1)))) with hc | hc
            case inl =>
              exact .inr ⟨(wanted_of rfl rfl (gg.trans (by rw [hc]))).trans rfl, Gd.no hc, ⟨_, rfl⟩⟩
            have g46 : act.tmps[46]?.getD undef = .pointer (some ⟨b, off + k * 3 + 2, none⟩) := Gd.get (hI.has 30 46 rfl (hall ⟨30, .data⟩ (by simp) rfl)) hc
            clear hI hall hnot hcl
            refine .inl ⟨(wanted_of rfl rfl (gg.trans (by rw [hc]))).trans rfl, ?_⟩
            clear gg
            unfold Oper.wp
            go_simp
            all_goals exact ⟨_, rfl, Gd.yes (by first | rfl | exact hc) rfl, ⟨_, rfl⟩⟩
          · simp at hq; subst hq
            have gg : act.tmps[42]?.getD undef = .bool (((!t0) || ((!t1)))) := hI.has 26 42 rfl (hall ⟨26, .guard⟩ (by simp) rfl)
            rcases Bool.eq_false_or_eq_true (((!t0) || ((!t1)))) with hc | hc
            case inl =>
              exact .inr ⟨(wanted_of rfl rfl (gg.trans (by rw [hc]))).trans rfl, Gd.no hc, ⟨_, rfl⟩⟩
            have g1 : act.tmps[1]?.getD undef = .slice (some ⟨b', off', none⟩) ys.length cap' := hI.kept 1 (by kernel_rfl)
            clear hI hall hnot hcl
            refine .inl ⟨(wanted_of rfl rfl (gg.trans (by rw [hc]))).trans rfl, ?_⟩
            clear gg
            unfold Oper.wp
            go_simp
            all_goals exact ⟨_, rfl, Gd.yes (by first | rfl | exact hc) rfl, ⟨_, rfl⟩⟩
          · simp at hq; subst hq
            have gg : act.tmps[42]?.getD undef = .bool (((!t0) || ((!t1)))) := hI.has 26 42 rfl (hall ⟨26, .guard⟩ (by simp) rfl)
            rcases Bool.eq_false_or_eq_true (((!t0) || ((!t1)))) with hc | hc
            case inl =>
              exact .inr ⟨(wanted_of rfl rfl (gg.trans (by rw [hc]))).trans rfl, Gd.no hc, ⟨_, rfl⟩⟩
            have g5 : act.tmps[5]?.getD undef = .int .i64 k := hI.kept 5 (by kernel_rfl)
            clear hI hall hnot hcl
            refine .inl ⟨(wanted_of rfl rfl (gg.trans (by rw [hc]))).trans rfl, ?_⟩
            clear gg
            unfold Oper.wp
            go_simp
            all_goals exact ⟨_, rfl, Gd.yes (by first | rfl | exact hc) rfl, ⟨_, rfl⟩⟩
          · simp at hq; subst hq
            have gg : act.tmps[42]?.getD undef = .bool (((!t0) || ((!t1)))) := hI.has 26 42 rfl (hall ⟨26, .guard⟩ (by simp) rfl)
            rcases Bool.eq_false_or_eq_true (((!t0) || ((!t1)))) with hc | hc
            case inl =>
              exact .inr ⟨(wanted_of rfl rfl (gg.trans (by rw [hc]))).trans rfl, Gd.no hc, ⟨_, rfl⟩⟩
            have g48 : act.tmps[48]?.getD undef = .slice (some ⟨b', off', none⟩) ys.length cap' := Gd.get (hI.has 32 48 rfl (hall ⟨32, .data⟩ (by simp) rfl)) hc
            have g49 : act.tmps[49]?.getD undef = .int .i64 k := Gd.get (hI.has 33 49 rfl (hall ⟨33, .data⟩ (by simp) rfl)) hc
            clear hI hall hnot hcl
            refine .inl ⟨(wanted_of rfl rfl (gg.trans (by rw [hc]))).trans rfl, ?_⟩
            clear gg
            unfold Oper.wp
            go_simp
            all_goals exact ⟨_, rfl, Gd.yes (by first | rfl | exact hc) rfl, ⟨_, rfl⟩⟩
          · simp at hq; subst hq
            have gg : act.tmps[42]?.getD undef = .bool (((!t0) || ((!t1)))) := hI.has 26 42 rfl (hall ⟨26, .guard⟩ (by simp) rfl)
            rcases Bool.eq_false_or_eq_true (((!t0) || ((!t1)))) with hc | hc
            case inl =>
              exact .inr ⟨(wanted_of rfl rfl (gg.trans (by rw [hc]))).trans rfl, Gd.no hc, ⟨_, rfl⟩⟩
            have g50 : act.tmps[50]?.getD undef = .pointer (some ⟨b', off' + k * 3, none⟩) := Gd.get (hI.has 34 50 rfl (hall ⟨34, .data⟩ (by simp) rfl)) hc
            clear hI hall hnot hcl
            refine .inl ⟨(wanted_of rfl rfl (gg.trans (by rw [hc]))).trans rfl, ?_⟩
            clear gg
            unfold Oper.wp
            go_simp
            all_goals exact ⟨_, rfl, Gd.yes (by first | rfl | exact hc) rfl, ⟨_, rfl⟩⟩
          · simp at hq; subst hq
            have gg : act.tmps[42]?.getD undef = .bool (((!t0) || ((!t1)))) := hI.has 26 42 rfl (hall ⟨26, .guard⟩ (by simp) rfl)
            rcases Bool.eq_false_or_eq_true (((!t0) || ((!t1)))) with hc | hc
            case inl =>
              exact .inr ⟨(wanted_of rfl rfl (gg.trans (by rw [hc]))).trans rfl, Gd.no hc, ⟨_, rfl⟩⟩
            have g51 : act.tmps[51]?.getD undef = .pointer (some ⟨b', off' + k * 3 + 2, none⟩) := Gd.get (hI.has 35 51 rfl (hall ⟨35, .data⟩ (by simp) rfl)) hc
            clear hI hall hnot hcl
            refine .inl ⟨(wanted_of rfl rfl (gg.trans (by rw [hc]))).trans rfl, ?_⟩
            clear gg
            unfold Oper.wp
            go_simp
            all_goals exact ⟨_, rfl, Gd.yes (by first | rfl | exact hc) rfl, ⟨_, rfl⟩⟩
          · simp at hq; subst hq
            have gg : act.tmps[42]?.getD undef = .bool (((!t0) || ((!t1)))) := hI.has 26 42 rfl (hall ⟨26, .guard⟩ (by simp) rfl)
            rcases Bool.eq_false_or_eq_true (((!t0) || ((!t1)))) with hc | hc
            case inl =>
              exact .inr ⟨(wanted_of rfl rfl (gg.trans (by rw [hc]))).trans rfl, Gd.no hc, ⟨_, rfl⟩⟩
            have g47 : act.tmps[47]?.getD undef = .bool z := Gd.get (hI.has 31 47 rfl (hall ⟨31, .data⟩ (by simp) rfl)) hc
            have g52 : act.tmps[52]?.getD undef = .bool z' := Gd.get (hI.has 36 52 rfl (hall ⟨36, .data⟩ (by simp) rfl)) hc
            clear hI hall hnot hcl
            refine .inl ⟨(wanted_of rfl rfl (gg.trans (by rw [hc]))).trans rfl, ?_⟩
            clear gg
            unfold Oper.wp
            go_simp
            rw [P2.out]
            exact ⟨_, rfl, Gd.yes (by first | rfl | exact hc) rfl, ⟨_, rfl⟩⟩
          · simp at hq; subst hq
            have g42 : act.tmps[42]?.getD undef = .bool ((!t0) || ((!t1))) := hI.has 26 42 rfl (hall ⟨26, .data⟩ (by simp) rfl)
            have G53 := hI.has 37 53 rfl (hall ⟨37, .data⟩ (by simp) rfl)
            clear hI hall hnot hcl
            refine .inl ⟨wanted_none rfl, ?_⟩
            unfold Oper.wp
            rcases Bool.eq_false_or_eq_true (((!t0) || ((!t1)))) with hc | hc
            · rw [hc] at g42
              have g53 := Gd.un G53 hc
              clear G53
              go_simp
              all_goals exact ⟨_, rfl, by first | rfl | (rw [hc]; rfl), ⟨_, rfl⟩⟩
            · rw [hc] at g42
              have g53 := Gd.get G53 hc
              clear G53
              go_simp
              all_goals exact ⟨_, rfl, by first | rfl | (rw [hc]; rfl), ⟨_, rfl⟩⟩
          · simp at hq
        case hend =>
          intro listed act w3 hI hall
          obtain ⟨nn, rfl⟩ := hI.cls
          have g54 : act.tmps[54]?.getD undef = .bool (((!t0) || ((!t1))) || t2) := hI.has 38 54 rfl (hall 38 (by decide))
          obtain ⟨bb, hbb⟩ : ∃ x, x = (((!t0) || ((!t1))) || t2) := ⟨_, rfl⟩
          rw [← hbb] at g54
          have HBB : Hid (smAt xs ys k = !bb) := Lib.hid (by rw [hbb, HE.out]; cases t0 <;> cases t1 <;> cases t2 <;> rfl)
          clear hbb
          have g5 : act.tmps[5]?.getD undef = .int .i64 k := hI.kept 5 (by kernel_rfl)
          have g13 : act.tmps[13]?.getD undef = .int .i64 k := hI.kept 13 (by kernel_rfl)
          have g0 := hI.kept 0 (by kernel_rfl)
          conv at g0 => rhs; whnf
          have g1 := hI.kept 1 (by kernel_rfl)
          conv at g1 => rhs; whnf
          have g2 : act.tmps[2]?.getD undef = undef := hI.kept 2 (by kernel_rfl)
          have g3 : act.tmps[3]?.getD undef = undef := hI.kept 3 (by kernel_rfl)
          have g6 := hI.kept 6 (by kernel_rfl)
          conv at g6 => rhs; whnf
          have g7 := hI.kept 7 (by kernel_rfl)
          conv at g7 => rhs; whnf
          have g8 := hI.kept 8 (by kernel_rfl)
          conv at g8 => rhs; whnf
          have g9 := hI.kept 9 (by kernel_rfl)
          conv at g9 => rhs; whnf
          have g10 := hI.kept 10 (by kernel_rfl)
          conv at g10 => rhs; whnf
          have g11 := hI.kept 11 (by kernel_rfl)
          conv at g11 => rhs; whnf
          have g12 := hI.kept 12 (by kernel_rfl)
          conv at g12 => rhs; whnf
          have hsz : act.tmps.size = 56 := hI.size.trans (by kernel_rfl)
          have hd := hI.defers
          clear hI hall
          obtain ⟨tt, dd⟩ := act
          simp only at g0 g1 g2 g3 g5 g6 g7 g8 g9 g10 g11 g12 g13 g54 hsz hd
          subst hd
          have hl : tt = #[tt[0]?.getD undef, tt[1]?.getD undef, tt[2]?.getD undef, tt[3]?.getD undef, tt[4]?.getD undef, tt[5]?.getD undef, tt[6]?.getD undef, tt[7]?.getD undef, tt[8]?.getD undef, tt[9]?.getD undef, tt[10]?.getD undef, tt[11]?.getD undef, tt[12]?.getD undef, tt[13]?.getD undef, tt[14]?.getD undef, tt[15]?.getD undef, tt[16]?.getD undef, tt[17]?.getD undef, tt[18]?.getD undef, tt[19]?.getD undef, tt[20]?.getD undef, tt[21]?.getD undef, tt[22]?.getD undef, tt[23]?.getD undef, tt[24]?.getD undef, tt[25]?.getD undef, tt[26]?.getD undef, tt[27]?.getD undef, tt[28]?.getD undef, tt[29]?.getD undef, tt[30]?.getD undef, tt[31]?.getD undef, tt[32]?.getD undef, tt[33]?.getD undef, tt[34]?.getD undef, tt[35]?.getD undef, tt[36]?.getD undef, tt[37]?.getD undef, tt[38]?.getD undef, tt[39]?.getD undef, tt[40]?.getD undef, tt[41]?.getD undef, tt[42]?.getD undef, tt[43]?.getD undef, tt[44]?.getD undef, tt[45]?.getD undef, tt[46]?.getD undef, tt[47]?.getD undef, tt[48]?.getD undef, tt[49]?.getD undef, tt[50]?.getD undef, tt[51]?.getD undef, tt[52]?.getD undef, tt[53]?.getD undef, tt[54]?.getD undef, tt[55]?.getD undef] := (arr_lit hsz).trans rfl
          rw [g0, g1, g2, g3, g5, g6, g7, g8, g9, g10, g11, g12, g13, g54] at hl
          clear g0 g1 g2 g3 g5 g6 g7 g8 g9 g10 g11 g12 g13 g54 hsz
          generalize tt[4]?.getD undef = y4 at hl
          generalize tt[14]?.getD undef = y14 at hl
          generalize tt[15]?.getD undef = y15 at hl
          generalize tt[16]?.getD undef = y16 at hl
          generalize tt[17]?.getD undef = y17 at hl
          generalize tt[18]?.getD undef = y18 at hl
          generalize tt[19]?.getD undef = y19 at hl
          generalize tt[20]?.getD undef = y20 at hl
          generalize tt[21]?.getD undef = y21 at hl
          generalize tt[22]?.getD undef = y22 at hl
          generalize tt[23]?.getD undef = y23 at hl
          generalize tt[24]?.getD undef = y24 at hl
          generalize tt[25]?.getD undef = y25 at hl
          generalize tt[26]?.getD undef = y26 at hl
          generalize tt[27]?.getD undef = y27 at hl
          generalize tt[28]?.getD undef = y28 at hl
          generalize tt[29]?.getD undef = y29 at hl
          generalize tt[30]?.getD undef = y30 at hl
          generalize tt[31]?.getD undef = y31 at hl
          generalize tt[32]?.getD undef = y32 at hl
          generalize tt[33]?.getD undef = y33 at hl
          generalize tt[34]?.getD undef = y34 at hl
          generalize tt[35]?.getD undef = y35 at hl
          generalize tt[36]?.getD undef = y36 at hl
          generalize tt[37]?.getD undef = y37 at hl
          generalize tt[38]?.getD undef = y38 at hl
          generalize tt[39]?.getD undef = y39 at hl
          generalize tt[40]?.getD undef = y40 at hl
          generalize tt[41]?.getD undef = y41 at hl
          generalize tt[42]?.getD undef = y42 at hl
          generalize tt[43]?.getD undef = y43 at hl
          generalize tt[44]?.getD undef = y44 at hl
          generalize tt[45]?.getD undef = y45 at hl
          generalize tt[46]?.getD undef = y46 at hl
          generalize tt[47]?.getD undef = y47 at hl
          generalize tt[48]?.getD undef = y48 at hl
          generalize tt[49]?.getD undef = y49 at hl
          generalize tt[50]?.getD undef = y50 at hl
          generalize tt[51]?.getD undef = y51 at hl
          generalize tt[52]?.getD undef = y52 at hl
          generalize tt[53]?.getD undef = y53 at hl
          generalize tt[55]?.getD undef = y55 at hl
          subst hl
          clear hc0 hc1 hc2 hd0 hd1 hd2 P2 Q0 Q1 HE
          cases bb
          · have HQ : Hid (alls (smAt xs ys) (k + 1) = true) := Lib.hid (by rw [HA.out, HBB.out]; rfl)
            go_wp2
            go_roundw
            case rel => exact ⟨k + 1, nn, by omega, by go_num, HQ, rfl⟩
            case measure => simp [intOf]; omega
          · have HN : Hid (sameC xs ys = false) := Lib.hid (HNo.out (k + 1) (by rw [HA.out, HBB.out]; rfl) (by omega))
            go_wp2
            go_ret
            exact ⟨by rw [HN.out]; rfl, below_draws (Below.refl _ _) _⟩
      · have hkk : k = xs.length := by omega
        subst hkk
        have HN : Hid (sameC xs ys = true) := Lib.hid (by rw [HV.out, hr.out])
        go_wp2
        go_ret
        exact ⟨by rw [HN.out]; rfl, below_draws (Below.refl _ _) _⟩
  · have e1 : ((xs.length : Int) != (ys.length : Int)) = true := by rw [bne_iff_ne]; omega
    have HN := Lib.hid (sameC_no hl)
    clear hl
    go_enter Try.func19, Try.ntmps19
    go_wp2
    go_ret
    exact ⟨by rw [HN.out]; rfl, Below.refl _ _⟩
end Go.Proofs.Ytpchkedgjikpfab
