/- Cycles: what is one, and lists of them: both sides. No statement is proved here. -/
import Derived.Test.YtpchkedgjikpfabCyc
import Derived.Test.YtpchkedgjikpfabBoth
import Derived.Test.YtpchkedgjikpfabApp
import Derived.Test.YtpchkedgjikpfabGd
namespace Go.Proofs.Ytpchkedgjikpfab
open Go Go.RowKit
/-- a cycle -/
def cyT (x y : Nat) : Bool := fin .f32 x && (fin .f32 y && !lss32 y x)
def cyAt (xs : List (Nat × Nat × Bool)) (k : Nat) : Bool := cyT (loN xs k) (hiN xs k)
/-- a list of cycles -/
def areC (xs : List (Nat × Nat × Bool)) : Bool := decide (xs.length ≤ 64) && alls (cyAt xs) xs.length
theorem areC_no {xs : List (Nat × Nat × Bool)} (h : ¬ xs.length ≤ 64) : areC xs = false := by unfold areC; rw [decide_eq_false h]; rfl
theorem areC_yes {xs : List (Nat × Nat × Bool)} (h : xs.length ≤ 64) : areC xs = alls (cyAt xs) xs.length := by unfold areC; rw [decide_eq_true h]; rfl
theorem areC_a {xs : List (Nat × Nat × Bool)} {k : Nat} (h : alls (cyAt xs) k = false) (hk : k ≤ xs.length) : areC xs = false := by unfold areC; rw [alls_no h hk, Bool.and_false]
theorem areC_len {xs : List (Nat × Nat × Bool)} (h : areC xs = true) : xs.length ≤ 64 := by unfold areC at h; rw [Bool.and_eq_true] at h; exact of_decide_eq_true h.1
theorem areC_at {xs : List (Nat × Nat × Bool)} (h : areC xs = true) {k : Nat} (hk : k < xs.length) : cyAt xs k = true := by unfold areC at h; rw [Bool.and_eq_true] at h; exact alls_at h.2 k hk
set_option maxHeartbeats 4000000 in
theorem i_notCycle (x y : Nat) (z : Bool) (w : World) :
    Calls Try.prog 57 #[.agg #[.float .f32 x, .float .f32 y, .bool z]] w fun e w' => e = .returned (.bool (!cyT x y)) ∧ Below w.heap.size w w' := by
  have HB : ∀ o1, Hid (Below w.heap.size w (w.alloc o1)) := fun _ => Lib.hid ((Below.refl _ _).alloc (Nat.le_refl _) _)
  go_enter Try.func57, Try.ntmps57
  go_wp2_with fail
  refine (i_notFinite _ _).mono ?_
  rintro e w' ⟨n1, rfl, rfl⟩
  cases p1 : fin .f32 x
  · go_wp2
    go_ret
    exact ⟨by unfold cyT; rw [p1]; rfl, by repeat (first | exact (HB _).out | refine below_draws ?_ _)⟩
  · go_wp2_with fail
    refine (i_notFinite _ _).mono ?_
    rintro e w' ⟨n2, rfl, rfl⟩
    cases p2 : fin .f32 y
    · go_wp2
      go_ret
      exact ⟨by unfold cyT; rw [p1, p2]; rfl, by repeat (first | exact (HB _).out | refine below_draws ?_ _)⟩
    · go_wp2
      go_ret
      exact ⟨by unfold cyT lss32; rw [p1, p2]; simp, by repeat (first | exact (HB _).out | refine below_draws ?_ _)⟩
set_option maxHeartbeats 4000000 in
theorem lib_IndexFunc_cycle (A : Option Addr) (cap : Nat) (xs : List (Nat × Nat × Bool)) (w : World) (h : FlC w A xs) (hn : xs.length ≤ 1048576) :
    Calls Try.prog 103 #[.slice A xs.length cap, .func (.func 57) #[] #[]] w fun e w' => ∃ i, e = .returned (.int .i64 i) ∧ decide (0 ≤ i) = !alls (cyAt xs) xs.length ∧ Below w.heap.size w w' := by
  have HF := Lib.hid h; clear h
  go_enter Try.func103, Try.ntmps103
  go_wp2
  go_loopw [8] (fun i wr => ∃ k : Nat, k ≤ xs.length ∧ i = .int .i64 k ∧ Hid (alls (cyAt xs) k = true) ∧ Hid (Below w.heap.size w wr)) (fun i _ => xs.length - (intOf i).toNat)
  case atStart => exact ⟨0, Nat.zero_le _, rfl, rfl, Lib.hid (Below.refl _ _)⟩
  case round =>
    obtain ⟨k, hk, rfl, hr, HB⟩ := hrel
    by_cases hlt : k < xs.length
    · obtain ⟨b, off, rfl, -, hc0, hc1, hc2⟩ := (HF.out.below HB.out).at_ hlt
      have HA : Hid (alls (cyAt xs) (k + 1) = cyT (loN xs k) (hiN xs k)) := Lib.hid (by show (alls _ k && _) = _; rw [hr.out]; rfl)
      have HNo : Hid (alls (cyAt xs) (k + 1) = false → alls (cyAt xs) xs.length = false) := Lib.hid (fun h => alls_no h (by omega))
      generalize loN xs k = x at hc0 HA
      generalize hiN xs k = y at hc1 HA
      generalize whB xs k = z at hc2
      go_wp2_with fail
      refine (i_notCycle x y z _).mono ?_
      rintro e w1 ⟨rfl, b1⟩
      have B1 : Hid (Below w.heap.size w w1) := Lib.hid (below_of HB.out HB.out.size b1)
      clear b1
      cases hp : cyT x y
      · have HN : Hid (alls (cyAt xs) xs.length = false) := Lib.hid (HNo.out (by rw [HA.out, hp]))
        clear hp
        go_wp2
        go_ret
        exact ⟨_, rfl, by rw [HN.out]; simp, B1.out⟩
      · have HY : Hid (alls (cyAt xs) (k + 1) = true) := Lib.hid (by rw [HA.out, hp])
        clear hp
        go_wp2
        go_roundw
        case rel => exact ⟨k + 1, by omega, by go_num, HY, B1⟩
        case measure => simp [intOf]; omega
    · have hkk : k = xs.length := by omega
      subst hkk
      go_wp2
      go_ret
      exact ⟨_, rfl, by rw [hr.out]; rfl, HB.out⟩
theorem lib_ContainsFunc_cycle (A : Option Addr) (cap : Nat) (xs : List (Nat × Nat × Bool)) (w : World) (h : FlC w A xs) (hn : xs.length ≤ 1048576) :
    Calls Try.prog 56 #[.slice A xs.length cap, .func (.func 57) #[] #[]] w fun e w' => e = .returned (.bool (!alls (cyAt xs) xs.length)) ∧ Below w.heap.size w w' := by
  have HF := Lib.hid h; clear h
  go_enter Try.func56, Try.ntmps56
  go_wp2_with fail
  refine (lib_IndexFunc_cycle A cap xs _ HF.out hn).mono ?_
  rintro e w' ⟨i, rfl, hi, b1⟩
  have HI := Lib.hid hi; clear hi
  have B1 := Lib.hid b1; clear b1
  go_wp2
  go_ret
  exact ⟨by rw [← HI.out]; rfl, B1.out⟩
theorem i_AreCycles (A : Option Addr) (cap : Nat) (xs : List (Nat × Nat × Bool)) (w : World) (h : FlC w A xs) (hn : xs.length ≤ 1048576) :
    Calls Try.prog 17 #[.slice A xs.length cap] w fun e w' => e = .returned (.bool (areC xs)) ∧ Below w.heap.size w w' := by
  have HF := Lib.hid h; clear h
  by_cases h2 : xs.length ≤ 64
  · have HY : Hid (areC xs = alls (cyAt xs) xs.length) := Lib.hid (areC_yes h2)
    go_enter Try.func17, Try.ntmps17
    go_wp2_with fail
    refine (lib_ContainsFunc_cycle A cap xs _ HF.out hn).mono ?_
    rintro e w' ⟨rfl, b1⟩
    have B1 := Lib.hid b1; clear b1
    go_wp2
    go_ret
    exact ⟨by rw [HY.out]; simp, B1.out⟩
  · have HY : Hid (areC xs = false) := Lib.hid (areC_no h2)
    go_enter Try.func17, Try.ntmps17
    go_wp2
    go_ret
    exact ⟨by rw [HY.out]; rfl, Below.refl _ _⟩
set_option maxHeartbeats 8000000 in
set_option maxRecDepth 100000 in
theorem s_l07Are (A : Option Addr) (cap : Nat) (xs : List (Nat × Nat × Bool)) (w : World) (h : FlC w A xs) (hn : xs.length ≤ 1048576) :
    Calls Try.prog 54 #[.slice A xs.length cap] w fun e w' => e = .returned (.bool (areC xs)) ∧ ∃ n, w' = w.drewN n := by
  have HF := Lib.hid h; clear h
  have hst : ∀ m, ∃ nn, { (w.drewN m) with drawn := (w.drewN m).drawn + 1 } = w.drewN nn := fun m => ⟨m + 1, rfl⟩
  have hdd : ∀ nn j, ∃ mm, (w.drewN nn).drewN j = w.drewN mm := fun nn j => ⟨nn + j, World.drewN_drewN ..⟩
  go_enter Try.func54, Try.ntmps54
  go_wp2
  go_loopw [6] (fun i wr => ∃ k n : Nat, k ≤ xs.length ∧ i = .int .i64 k ∧ Hid (alls (cyAt xs) k = true) ∧ wr = w.drewN n) (fun i _ => xs.length - (intOf i).toNat)
  case atStart => exact ⟨0, 0, Nat.zero_le _, rfl, rfl, rfl⟩
  case round =>
    obtain ⟨k, n, hk, rfl, hr, rfl⟩ := hrel
    by_cases hlt : k < xs.length
    · obtain ⟨b, off, rfl, hb, hc0, hc1, -⟩ := HF.out.at_ hlt
      have HA : Hid (alls (cyAt xs) (k + 1) = cyAt xs k) := Lib.hid (by show (alls _ k && _) = _; rw [hr.out]; rfl)
      have HNo : Hid (alls (cyAt xs) (k + 1) = false → areC xs = false) := Lib.hid (fun h => areC_a h (by omega))
      have HE : Hid (cyAt xs k = (fin .f32 (loN xs k) && (fin .f32 (hiN xs k) && !lss32 (hiN xs k) (loN xs k)))) := rfl
      generalize loN xs k = x at hc0 HE
      generalize hiN xs k = y at hc1 HE
      have Q0 : ∀ W, Hid (Calls Try.prog 68 #[.float .f32 x] W fun e w' => ∃ n, e = .returned (.bool (fin .f32 x)) ∧ w' = W.drewN n) := fun W => Lib.hid (s_l01Finite _ _)
      have Q1 : ∀ W, Hid (Calls Try.prog 68 #[.float .f32 y] W fun e w' => ∃ n, e = .returned (.bool (fin .f32 y)) ∧ w' = W.drewN n) := fun W => Lib.hid (s_l01Finite _ _)
      have P2 : Hid ((FloatKind.f32.format.order y x == some .lt) = lss32 y x) := rfl
      generalize fin .f32 x = t0 at Q0 HE
      generalize fin .f32 y = t1 at Q1 HE
      generalize lss32 y x = t2 at P2 HE
      clear hb
      go_wp2_with fail
      refine wp_region_inv3 (fun iq v => match iq with
        | 0 => v = .slice (some ⟨b, off, none⟩) xs.length cap
        | 1 => v = .int .i64 k
        | 2 => v = .pointer (some ⟨b, off + k * 3, none⟩)
        | 3 => v = .pointer (some ⟨b, off + k * 3, none⟩)
        | 4 => v = .float .f32 x
        | 5 => v = .bool t0
        | 6 => v = .bool (!t0)
        | 7 => v = .bool (!t0)
        | 8 => Gd ((!t0)) false (v = .slice (some ⟨b, off, none⟩) xs.length cap) v
        | 9 => Gd ((!t0)) false (v = .int .i64 k) v
        | 10 => Gd ((!t0)) false (v = .pointer (some ⟨b, off + k * 3, none⟩)) v
        | 11 => Gd ((!t0)) false (v = .pointer (some ⟨b, off + k * 3 + 1, none⟩)) v
        | 12 => Gd ((!t0)) false (v = .float .f32 y) v
        | 13 => Gd ((!t0)) false (v = .bool t1) v
        | 14 => Gd ((!t0)) false (v = .bool (!t1)) v
        | 15 => v = .bool ((!t0) || ((!t1)))
        | 16 => v = .bool ((!t0) || ((!t1)))
        | 17 => Gd (((!t0) || ((!t1)))) false (v = .slice (some ⟨b, off, none⟩) xs.length cap) v
        | 18 => Gd (((!t0) || ((!t1)))) false (v = .int .i64 k) v
        | 19 => Gd (((!t0) || ((!t1)))) false (v = .pointer (some ⟨b, off + k * 3, none⟩)) v
        | 20 => Gd (((!t0) || ((!t1)))) false (v = .pointer (some ⟨b, off + k * 3 + 1, none⟩)) v
        | 21 => Gd (((!t0) || ((!t1)))) false (v = .float .f32 y) v
        | 22 => Gd (((!t0) || ((!t1)))) false (v = .slice (some ⟨b, off, none⟩) xs.length cap) v
        | 23 => Gd (((!t0) || ((!t1)))) false (v = .int .i64 k) v
        | 24 => Gd (((!t0) || ((!t1)))) false (v = .pointer (some ⟨b, off + k * 3, none⟩)) v
        | 25 => Gd (((!t0) || ((!t1)))) false (v = .pointer (some ⟨b, off + k * 3, none⟩)) v
        | 26 => Gd (((!t0) || ((!t1)))) false (v = .float .f32 x) v
        | 27 => Gd (((!t0) || ((!t1)))) false (v = .bool t2) v
        | 28 => v = .bool (((!t0) || ((!t1))) || t2)
        | _ => False) (fun _ ww => ∃ nn, ww = w.drewN nn) (by kernel_rfl) (by kernel_rfl) (hst _) ?hop ?hend
      case hop =>
        intro q o hq listed act w3 hI hnot hcl hall
        obtain ⟨nn, rfl⟩ := hI.cls
        rcases q with _ | _ | _ | _ | _ | _ | _ | _ | _ | _ | _ | _ | _ | _ | _ | _ | _ | _ | _ | _ | _ | _ | _ | _ | _ | _ | _ | _ | _ | q
        · simp at hq; subst hq
          have g0 : act.tmps[0]?.getD undef = .slice (some ⟨b, off, none⟩) xs.length cap := hI.kept 0 (by kernel_rfl)
          clear hI hall hnot hcl
          refine .inl ⟨wanted_none rfl, ?_⟩
          unfold Oper.wp
          go_simp
          all_goals exact ⟨_, rfl, rfl, ⟨_, rfl⟩⟩
        · simp at hq; subst hq
          have g3 : act.tmps[3]?.getD undef = .int .i64 k := hI.kept 3 (by kernel_rfl)
          clear hI hall hnot hcl
          refine .inl ⟨wanted_none rfl, ?_⟩
          unfold Oper.wp
          go_simp
          all_goals exact ⟨_, rfl, rfl, ⟨_, rfl⟩⟩
        · simp at hq; subst hq
          have g9 : act.tmps[9]?.getD undef = .slice (some ⟨b, off, none⟩) xs.length cap := hI.has 0 9 rfl (hall ⟨0, .data⟩ (by simp) rfl)
          have g10 : act.tmps[10]?.getD undef = .int .i64 k := hI.has 1 10 rfl (hall ⟨1, .data⟩ (by simp) rfl)
          clear hI hall hnot hcl
          refine .inl ⟨wanted_none rfl, ?_⟩
          unfold Oper.wp
          go_simp
          all_goals exact ⟨_, rfl, rfl, ⟨_, rfl⟩⟩
        · simp at hq; subst hq
          have g11 : act.tmps[11]?.getD undef = .pointer (some ⟨b, off + k * 3, none⟩) := hI.has 2 11 rfl (hall ⟨2, .data⟩ (by simp) rfl)
          clear hI hall hnot hcl
          refine .inl ⟨wanted_none rfl, ?_⟩
          unfold Oper.wp
          go_simp
          all_goals exact ⟨_, rfl, rfl, ⟨_, rfl⟩⟩
        · simp at hq; subst hq
          have g12 : act.tmps[12]?.getD undef = .pointer (some ⟨b, off + k * 3, none⟩) := hI.has 3 12 rfl (hall ⟨3, .data⟩ (by simp) rfl)
          clear hI hall hnot hcl
          refine .inl ⟨wanted_none rfl, ?_⟩
          unfold Oper.wp
          go_simp
          all_goals exact ⟨_, rfl, rfl, ⟨_, rfl⟩⟩
        · simp at hq; subst hq
          have g13 : act.tmps[13]?.getD undef = .float .f32 x := hI.has 4 13 rfl (hall ⟨4, .data⟩ (by simp) rfl)
          clear hI hall hnot hcl
          refine .inl ⟨wanted_none rfl, ?_⟩
          unfold Oper.wp
          go_simp
          refine (Q0 _).out.mono ?_
          rintro e w4 ⟨n4, rfl, rfl⟩
          exact ⟨_, rfl, rfl, hdd _ _⟩
        · simp at hq; subst hq
          have g14 : act.tmps[14]?.getD undef = .bool t0 := hI.has 5 14 rfl (hall ⟨5, .data⟩ (by simp) rfl)
          clear hI hall hnot hcl
          refine .inl ⟨wanted_none rfl, ?_⟩
          unfold Oper.wp
          go_simp
          all_goals exact ⟨_, rfl, rfl, ⟨_, rfl⟩⟩
        · simp at hq; subst hq
          have g15 : act.tmps[15]?.getD undef = .bool (!t0) := hI.has 6 15 rfl (hall ⟨6, .data⟩ (by simp) rfl)
          clear hI hall hnot hcl
          refine .inl ⟨wanted_none rfl, ?_⟩
          unfold Oper.wp
          go_simp
          all_goals exact ⟨_, rfl, rfl, ⟨_, rfl⟩⟩
        · simp at hq; subst hq
          have gg : act.tmps[16]?.getD undef = .bool ((!t0)) := hI.has 7 16 rfl (hall ⟨7, .guard⟩ (by simp) rfl)
          rcases Bool.eq_false_or_eq_true ((!t0)) with hc | hc
          case inl =>
            exact .inr ⟨(wanted_of rfl rfl (gg.trans (by rw [hc]))).trans rfl, Gd.no hc, ⟨_, rfl⟩⟩
          have g0 : act.tmps[0]?.getD undef = .slice (some ⟨b, off, none⟩) xs.length cap := hI.kept 0 (by kernel_rfl)
          clear hI hall hnot hcl
          refine .inl ⟨(wanted_of rfl rfl (gg.trans (by rw [hc]))).trans rfl, ?_⟩
          clear gg
          unfold Oper.wp
          go_simp
          all_goals exact ⟨_, rfl, Gd.yes (by first | rfl | exact hc) rfl, ⟨_, rfl⟩⟩
        · simp at hq; subst hq
          have gg : act.tmps[16]?.getD undef = .bool ((!t0)) := hI.has 7 16 rfl (hall ⟨7, .guard⟩ (by simp) rfl)
          rcases Bool.eq_false_or_eq_true ((!t0)) with hc | hc
          case inl =>
            exact .inr ⟨(wanted_of rfl rfl (gg.trans (by rw [hc]))).trans rfl, Gd.no hc, ⟨_, rfl⟩⟩
          have g3 : act.tmps[3]?.getD undef = .int .i64 k := hI.kept 3 (by kernel_rfl)
          clear hI hall hnot hcl
          refine .inl ⟨(wanted_of rfl rfl (gg.trans (by rw [hc]))).trans rfl, ?_⟩
          clear gg
          unfold Oper.wp
          go_simp
          all_goals exact ⟨_, rfl, Gd.yes (by first | rfl | exact hc) rfl, ⟨_, rfl⟩⟩
        · simp at hq; subst hq
          have gg : act.tmps[16]?.getD undef = .bool ((!t0)) := hI.has 7 16 rfl (hall ⟨7, .guard⟩ (by simp) rfl)
          rcases Bool.eq_false_or_eq_true ((!t0)) with hc | hc
          case inl =>
            exact .inr ⟨(wanted_of rfl rfl (gg.trans (by rw [hc]))).trans rfl, Gd.no hc, ⟨_, rfl⟩⟩
          have g17 : act.tmps[17]?.getD undef = .slice (some ⟨b, off, none⟩) xs.length cap := Gd.get (hI.has 8 17 rfl (hall ⟨8, .data⟩ (by simp) rfl)) hc
          have g18 : act.tmps[18]?.getD undef = .int .i64 k := Gd.get (hI.has 9 18 rfl (hall ⟨9, .data⟩ (by simp) rfl)) hc
          clear hI hall hnot hcl
          refine .inl ⟨(wanted_of rfl rfl (gg.trans (by rw [hc]))).trans rfl, ?_⟩
          clear gg
          unfold Oper.wp
          go_simp
          all_goals exact ⟨_, rfl, Gd.yes (by first | rfl | exact hc) rfl, ⟨_, rfl⟩⟩
        · simp at hq; subst hq
          have gg : act.tmps[16]?.getD undef = .bool ((!t0)) := hI.has 7 16 rfl (hall ⟨7, .guard⟩ (by simp) rfl)
          rcases Bool.eq_false_or_eq_true ((!t0)) with hc | hc
          case inl =>
            exact .inr ⟨(wanted_of rfl rfl (gg.trans (by rw [hc]))).trans rfl, Gd.no hc, ⟨_, rfl⟩⟩
          have g19 : act.tmps[19]?.getD undef = .pointer (some ⟨b, off + k * 3, none⟩) := Gd.get (hI.has 10 19 rfl (hall ⟨10, .data⟩ (by simp) rfl)) hc
          clear hI hall hnot hcl
          refine .inl ⟨(wanted_of rfl rfl (gg.trans (by rw [hc]))).trans rfl, ?_⟩
          clear gg
          unfold Oper.wp
          go_simp
          all_goals exact ⟨_, rfl, Gd.yes (by first | rfl | exact hc) rfl, ⟨_, rfl⟩⟩
        · simp at hq; subst hq
          have gg : act.tmps[16]?.getD undef = .bool ((!t0)) := hI.has 7 16 rfl (hall ⟨7, .guard⟩ (by simp) rfl)
          rcases Bool.eq_false_or_eq_true ((!t0)) with hc | hc
          case inl =>
            exact .inr ⟨(wanted_of rfl rfl (gg.trans (by rw [hc]))).trans rfl, Gd.no hc, ⟨_, rfl⟩⟩
          have g20 : act.tmps[20]?.getD undef = .pointer (some ⟨b, off + k * 3 + 1, none⟩) := Gd.get (hI.has 11 20 rfl (hall ⟨11, .data⟩ (by simp) rfl)) hc
          clear hI hall hnot hcl
          refine .inl ⟨(wanted_of rfl rfl (gg.trans (by rw [hc]))).trans rfl, ?_⟩
          clear gg
          unfold Oper.wp
          go_simp
          all_goals exact ⟨_, rfl, Gd.yes (by first | rfl | exact hc) rfl, ⟨_, rfl⟩⟩
        · simp at hq; subst hq
          have gg : act.tmps[16]?.getD undef = .bool ((!t0)) := hI.has 7 16 rfl (hall ⟨7, .guard⟩ (by simp) rfl)
          rcases Bool.eq_false_or_eq_true ((!t0)) with hc | hc
          case inl =>
            exact .inr ⟨(wanted_of rfl rfl (gg.trans (by rw [hc]))).trans rfl, Gd.no hc, ⟨_, rfl⟩⟩
          have g21 : act.tmps[21]?.getD undef = .float .f32 y := Gd.get (hI.has 12 21 rfl (hall ⟨12, .data⟩ (by simp) rfl)) hc
          clear hI hall hnot hcl
          refine .inl ⟨(wanted_of rfl rfl (gg.trans (by rw [hc]))).trans rfl, ?_⟩
          clear gg
          unfold Oper.wp
          go_simp
          refine (Q1 _).out.mono ?_
          rintro e w4 ⟨n4, rfl, rfl⟩
          exact ⟨_, rfl, Gd.yes (by first | rfl | exact hc) rfl, hdd _ _⟩
        · simp at hq; subst hq
          have gg : act.tmps[16]?.getD undef = .bool ((!t0)) := hI.has 7 16 rfl (hall ⟨7, .guard⟩ (by simp) rfl)
          rcases Bool.eq_false_or_eq_true ((!t0)) with hc | hc
          case inl =>
            exact .inr ⟨(wanted_of rfl rfl (gg.trans (by rw [hc]))).trans rfl, Gd.no hc, ⟨_, rfl⟩⟩
          have g22 : act.tmps[22]?.getD undef = .bool t1 := Gd.get (hI.has 13 22 rfl (hall ⟨13, .data⟩ (by simp) rfl)) hc
          clear hI hall hnot hcl
          refine .inl ⟨(wanted_of rfl rfl (gg.trans (by rw [hc]))).trans rfl, ?_⟩
          clear gg
          unfold Oper.wp
          go_simp
          all_goals exact ⟨_, rfl, Gd.yes (by first | rfl | exact hc) rfl, ⟨_, rfl⟩⟩
        · simp at hq; subst hq
          have g16 : act.tmps[16]?.getD undef = .bool (!t0) := hI.has 7 16 rfl (hall ⟨7, .data⟩ (by simp) rfl)
          have G23 := hI.has 14 23 rfl (hall ⟨14, .data⟩ (by simp) rfl)
          clear hI hall hnot hcl
          refine .inl ⟨wanted_none rfl, ?_⟩
          unfold Oper.wp
          rcases Bool.eq_false_or_eq_true ((!t0)) with hc | hc
          · rw [hc] at g16
            have g23 := Gd.un G23 hc
            clear G23
            go_simp
            all_goals exact ⟨_, rfl, by first | rfl | (rw [hc]; rfl), ⟨_, rfl⟩⟩
          · rw [hc] at g16
            have g23 := Gd.get G23 hc
            clear G23
            go_simp
            all_goals exact ⟨_, rfl, by first | rfl | (rw [hc]; rfl), ⟨_, rfl⟩⟩
        · simp at hq; subst hq
          have g24 : act.tmps[24]?.getD undef = .bool ((!t0) || ((!t1))) := hI.has 15 24 rfl (hall ⟨15, .data⟩ (by simp) rfl)
          clear hI hall hnot hcl
          refine .inl ⟨wanted_none rfl, ?_⟩
          unfold Oper.wp
          go_simp
          all_goals exact ⟨_, rfl, rfl, ⟨_, rfl⟩⟩
        · simp at hq; subst hq
          have gg : act.tmps[25]?.getD undef = .bool (((!t0) || ((!t1)))) := hI.has 16 25 rfl (hall ⟨16, .guard⟩ (by simp) rfl)
          rcases Bool.eq_false_or_eq_true (((!t0) || ((!t1)))) with hc | hc
          case inl =>
            exact .inr ⟨(wanted_of rfl rfl (gg.trans (by rw [hc]))).trans rfl, Gd.no hc, ⟨_, rfl⟩⟩
          have g0 : act.tmps[0]?.getD undef = .slice (some ⟨b, off, none⟩) xs.length cap := hI.kept 0 (by kernel_rfl)
          clear hI hall hnot hcl
          refine .inl ⟨(wanted_of rfl rfl (gg.trans (by rw [hc]))).trans rfl, ?_⟩
          clear gg
          unfold Oper.wp
          go_simp
          all_goals exact ⟨_, rfl, Gd.yes (by first | rfl | exact hc) rfl, ⟨_, rfl⟩⟩
        · simp at hq; subst hq
          have gg : act.tmps[25]?.getD undef = .bool (((!t0) || ((!t1)))) := hI.has 16 25 rfl (hall ⟨16, .guard⟩ (by simp) rfl)
          rcases Bool.eq_false_or_eq_true (((!t0) || ((!t1)))) with hc | hc
          case inl =>
            exact .inr ⟨(wanted_of rfl rfl (gg.trans (by rw [hc]))).trans rfl, Gd.no hc, ⟨_, rfl⟩⟩
          have g3 : act.tmps[3]?.getD undef = .int .i64 k := hI.kept 3 (by kernel_rfl)
          clear hI hall hnot hcl
          refine .inl ⟨(wanted_of rfl rfl (gg.trans (by rw [hc]))).trans rfl, ?_⟩
          clear gg
          unfold Oper.wp
          go_simp
          all_goals exact ⟨_, rfl, Gd.yes (by first | rfl | exact hc) rfl, ⟨_, rfl⟩⟩
        · simp at hq; subst hq
          have gg : act.tmps[25]?.getD undef = .bool (((!t0) || ((!t1)))) := hI.has 16 25 rfl (hall ⟨16, .guard⟩ (by simp) rfl)
          rcases Bool.eq_false_or_eq_true (((!t0) || ((!t1)))) with hc | hc
          case inl =>
            exact .inr ⟨(wanted_of rfl rfl (gg.trans (by rw [hc]))).trans rfl, Gd.no hc, ⟨_, rfl⟩⟩
          have g26 : act.tmps[26]?.getD undef = .slice (some ⟨b, off, none⟩) xs.length cap := Gd.get (hI.has 17 26 rfl (hall ⟨17, .data⟩ (by simp) rfl)) hc
          have g27 : act.tmps[27]?.getD undef = .int .i64 k := Gd.get (hI.has 18 27 rfl (hall ⟨18, .data⟩ (by simp) rfl)) hc
          clear hI hall hnot hcl
          refine .inl ⟨(wanted_of rfl rfl (gg.trans (by rw [hc]))).trans rfl, ?_⟩
          clear gg
          unfold Oper.wp
          go_simp
          all_goals exact ⟨_, rfl, Gd.yes (by first | rfl | exact hc) rfl, ⟨_, rfl⟩⟩
        · simp at hq; subst hq
          have gg : act.tmps[25]?.getD undef = .bool (((!t0) || ((!t1)))) := hI.has 16 25 rfl (hall ⟨16, .guard⟩ (by simp) rfl)
          rcases Bool.eq_false_or_eq_true (((!t0) || ((!t1)))) with hc | hc
          case inl =>
            exact .inr ⟨(wanted_of rfl rfl (gg.trans (by rw [hc]))).trans rfl, Gd.no hc, ⟨_, rfl⟩⟩
          have g28 : act.tmps[28]?.getD undef = .pointer (some ⟨b, off + k * 3, none⟩) := Gd.get (hI.has 19 28 rfl (hall ⟨19, .data⟩ (by simp) rfl)) hc
          clear hI hall hnot hcl
          refine .inl ⟨(wanted_of rfl rfl (gg.trans (by rw [hc]))).trans rfl, ?_⟩
          clear gg
          unfold Oper.wp
          go_simp
          all_goals exact ⟨_, rfl, Gd.yes (by first | rfl | exact hc) rfl, ⟨_, rfl⟩⟩
        · simp at hq; subst hq
          have gg : act.tmps[25]?.getD undef = .bool (((!t0) || ((!t1)))) := hI.has 16 25 rfl (hall ⟨16, .guard⟩ (by simp) rfl)
          rcases Bool.eq_false_or_eq_true (((!t0) || ((!t1)))) with hc | hc
          case inl =>
            exact .inr ⟨(wanted_of rfl rfl (gg.trans (by rw [hc]))).trans rfl, Gd.no hc, ⟨_, rfl⟩⟩
          have g29 : act.tmps[29]?.getD undef = .pointer (some ⟨b, off + k * 3 + 1, none⟩) := Gd.get (hI.has 20 29 rfl (hall ⟨20, .data⟩ (by simp) rfl)) hc
          clear hI hall hnot hcl
          refine .inl ⟨(wanted_of rfl rfl (gg.trans (by rw [hc]))).trans rfl, ?_⟩
          clear gg
          unfold Oper.wp
          go_simp
          all_goals exact ⟨_, rfl, Gd.yes (by first | rfl | exact hc) rfl, ⟨_, rfl⟩⟩
        · simp at hq; subst hq
          have gg : act.tmps[25]?.getD undef = .bool (((!t0) || ((!t1)))) := hI.has 16 25 rfl (hall ⟨16, .guard⟩ (by simp) rfl)
          rcases Bool.eq_false_or_eq_true (((!t0) || ((!t1)))) with hc | hc
          case inl =>
            exact .inr ⟨(wanted_of rfl rfl (gg.trans (by rw [hc]))).trans rfl, Gd.no hc, ⟨_, rfl⟩⟩
          have g0 : act.tmps[0]?.getD undef = .slice (some ⟨b, off, none⟩) xs.length cap := hI.kept 0 (by kernel_rfl)
          clear hI hall hnot hcl
          refine .inl ⟨(wanted_of rfl rfl (gg.trans (by rw [hc]))).trans rfl, ?_⟩
          clear gg
          unfold Oper.wp
          go_simp
          all_goals exact ⟨_, rfl, Gd.yes (by first | rfl | exact hc) rfl, ⟨_, rfl⟩⟩
        · simp at hq; subst hq
          have gg : act.tmps[25]?.getD undef = .bool (((!t0) || ((!t1)))) := hI.has 16 25 rfl (hall ⟨16, .guard⟩ (by simp) rfl)
          rcases Bool.eq_false_or_eq_true (((!t0) || ((!t1)))) with hc | hc
          case inl =>
            exact .inr ⟨(wanted_of rfl rfl (gg.trans (by rw [hc]))).trans rfl, Gd.no hc, ⟨_, rfl⟩⟩
          have g3 : act.tmps[3]?.getD undef = .int .i64 k := hI.kept 3 (by kernel_rfl)
          clear hI hall hnot hcl
          refine .inl ⟨(wanted_of rfl rfl (gg.trans (by rw [hc]))).trans rfl, ?_⟩
          clear gg
          unfold Oper.wp
          go_simp
          all_goals exact ⟨_, rfl, Gd.yes (by first | rfl | exact hc) rfl, ⟨_, rfl⟩⟩
        · simp at hq; subst hq
          have gg : act.tmps[25]?.getD undef = .bool (((!t0) || ((!t1)))) := hI.has 16 25 rfl (hall ⟨16, .guard⟩ (by simp) rfl)
          rcases Bool.eq_false_or_eq_true (((!t0) || ((!t1)))) with hc | hc
          case inl =>
            exact .inr ⟨(wanted_of rfl rfl (gg.trans (by rw [hc]))).trans rfl, Gd.no hc, ⟨_, rfl⟩⟩
          have g31 : act.tmps[31]?.getD undef = .slice (some ⟨b, off, none⟩) xs.length cap := Gd.get (hI.has 22 31 rfl (hall ⟨22, .data⟩ (by simp) rfl)) hc
          have g32 : act.tmps[32]?.getD undef = .int .i64 k := Gd.get (hI.has 23 32 rfl (hall ⟨23, .data⟩ (by simp) rfl)) hc
          clear hI hall hnot hcl
          refine .inl ⟨(wanted_of rfl rfl (gg.trans (by rw [hc]))).trans rfl, ?_⟩
          clear gg
          unfold Oper.wp
          go_simp
          all_goals exact ⟨_, rfl, Gd.yes (by first | rfl | exact hc) rfl, ⟨_, rfl⟩⟩
        · simp at hq; subst hq
          have gg : act.tmps[25]?.getD undef = .bool (((!t0) || ((!t1)))) := hI.has 16 25 rfl (hall ⟨16, .guard⟩ (by simp) rfl)
          rcases Bool.eq_false_or_eq_true (((!t0) || ((!t1)))) with hc | hc
          case inl =>
            exact .inr ⟨(wanted_of rfl rfl (gg.trans (by rw [hc]))).trans rfl, Gd.no hc, ⟨_, rfl⟩⟩
          have g33 : act.tmps[33]?.getD undef = .pointer (some ⟨b, off + k * 3, none⟩) := Gd.get (hI.has 24 33 rfl (hall ⟨24, .data⟩ (by simp) rfl)) hc
          clear hI hall hnot hcl
          refine .inl ⟨(wanted_of rfl rfl (gg.trans (by rw [hc]))).trans rfl, ?_⟩
          clear gg
          unfold Oper.wp
          go_simp
          all_goals exact ⟨_, rfl, Gd.yes (by first | rfl | exact hc) rfl, ⟨_, rfl⟩⟩
        · simp at hq; subst hq
          have gg : act.tmps[25]?.getD undef = .bool (((!t0) || ((!t1)))) := hI.has 16 25 rfl (hall ⟨16, .guard⟩ (by simp) rfl)
          rcases Bool.eq_false_or_eq_true (((!t0) || ((!t1)))) with hc | hc
          case inl =>
            exact .inr ⟨(wanted_of rfl rfl (gg.trans (by rw [hc]))).trans rfl, Gd.no hc, ⟨_, rfl⟩⟩
          have g34 : act.tmps[34]?.getD undef = .pointer (some ⟨b, off + k * 3, none⟩) := Gd.get (hI.has 25 34 rfl (hall ⟨25, .data⟩ (by simp) rfl)) hc
          clear hI hall hnot hcl
          refine .inl ⟨(wanted_of rfl rfl (gg.trans (by rw [hc]))).trans rfl, ?_⟩
          clear gg
          unfold Oper.wp
          go_simp
          all_goals exact ⟨_, rfl, Gd.yes (by first | rfl | exact hc) rfl, ⟨_, rfl⟩⟩
        · simp at hq; subst hq
          have gg : act.tmps[25]?.getD undef = .bool (((!t0) || ((!t1)))) := hI.has 16 25 rfl (hall ⟨16, .guard⟩ (by simp) rfl)
          rcases Bool.eq_false_or_eq_true (((!t0) || ((!t1)))) with hc | hc
          case inl =>
            exact .inr ⟨(wanted_of rfl rfl (gg.trans (by rw [hc]))).trans rfl, Gd.no hc, ⟨_, rfl⟩⟩
          have g30 : act.tmps[30]?.getD undef = .float .f32 y := Gd.get (hI.has 21 30 rfl (hall ⟨21, .data⟩ (by simp) rfl)) hc
          have g35 : act.tmps[35]?.getD undef = .float .f32 x := Gd.get (hI.has 26 35 rfl (hall ⟨26, .data⟩ (by simp) rfl)) hc
          clear hI hall hnot hcl
          refine .inl ⟨(wanted_of rfl rfl (gg.trans (by rw [hc]))).trans rfl, ?_⟩
          clear gg
          unfold Oper.wp
          go_simp
          rw [P2.out]
          exact ⟨_, rfl, Gd.yes (by first | rfl | exact hc) rfl, ⟨_, rfl⟩⟩
        · simp at hq; subst hq
          have g25 : act.tmps[25]?.getD undef = .bool ((!t0) || ((!t1))) := hI.has 16 25 rfl (hall ⟨16, .data⟩ (by simp) rfl)
          have G36 := hI.has 27 36 rfl (hall ⟨27, .data⟩ (by simp) rfl)
          clear hI hall hnot hcl
          refine .inl ⟨wanted_none rfl, ?_⟩
          unfold Oper.wp
          rcases Bool.eq_false_or_eq_true (((!t0) || ((!t1)))) with hc | hc
          · rw [hc] at g25
            have g36 := Gd.un G36 hc
            clear G36
            go_simp
            all_goals exact ⟨_, rfl, by first | rfl | (rw [hc]; rfl), ⟨_, rfl⟩⟩
          · rw [hc] at g25
            have g36 := Gd.get G36 hc
            clear G36
            go_simp
            all_goals exact ⟨_, rfl, by first | rfl | (rw [hc]; rfl), ⟨_, rfl⟩⟩
        · simp at hq
      case hend =>
        intro listed act w3 hI hall
        obtain ⟨nn, rfl⟩ := hI.cls
        have g37 : act.tmps[37]?.getD undef = .bool (((!t0) || ((!t1))) || t2) := hI.has 28 37 rfl (hall 28 (by decide))
        obtain ⟨bb, hbb⟩ : ∃ x, x = (((!t0) || ((!t1))) || t2) := ⟨_, rfl⟩
        rw [← hbb] at g37
        have HBB : Hid (cyAt xs k = !bb) := Lib.hid (by rw [hbb, HE.out]; cases t0 <;> cases t1 <;> cases t2 <;> rfl)
        clear hbb
        have g3 : act.tmps[3]?.getD undef = .int .i64 k := hI.kept 3 (by kernel_rfl)
        have g6 : act.tmps[6]?.getD undef = .int .i64 k := hI.kept 6 (by kernel_rfl)
        have g0 := hI.kept 0 (by kernel_rfl)
        conv at g0 => rhs; whnf
        have g1 : act.tmps[1]?.getD undef = undef := hI.kept 1 (by kernel_rfl)
        have g4 := hI.kept 4 (by kernel_rfl)
        conv at g4 => rhs; whnf
        have g5 := hI.kept 5 (by kernel_rfl)
        conv at g5 => rhs; whnf
        have g39 : act.tmps[39]?.getD undef = undef := hI.kept 39 (by kernel_rfl)
        have g40 : act.tmps[40]?.getD undef = undef := hI.kept 40 (by kernel_rfl)
        have g41 : act.tmps[41]?.getD undef = undef := hI.kept 41 (by kernel_rfl)
        have hsz : act.tmps.size = 42 := hI.size.trans (by kernel_rfl)
        have hd := hI.defers
        clear hI hall
        obtain ⟨tt, dd⟩ := act
        simp only at g0 g1 g3 g4 g5 g6 g37 g39 g40 g41 hsz hd
        subst hd
        have hl : tt = #[tt[0]?.getD undef, tt[1]?.getD undef, tt[2]?.getD undef, tt[3]?.getD undef, tt[4]?.getD undef, tt[5]?.getD undef, tt[6]?.getD undef, tt[7]?.getD undef, tt[8]?.getD undef, tt[9]?.getD undef, tt[10]?.getD undef, tt[11]?.getD undef, tt[12]?.getD undef, tt[13]?.getD undef, tt[14]?.getD undef, tt[15]?.getD undef, tt[16]?.getD undef, tt[17]?.getD undef, tt[18]?.getD undef, tt[19]?.getD undef, tt[20]?.getD undef, tt[21]?.getD undef, tt[22]?.getD undef, tt[23]?.getD undef, tt[24]?.getD undef, tt[25]?.getD undef, tt[26]?.getD undef, tt[27]?.getD undef, tt[28]?.getD undef, tt[29]?.getD undef, tt[30]?.getD undef, tt[31]?.getD undef, tt[32]?.getD undef, tt[33]?.getD undef, tt[34]?.getD undef, tt[35]?.getD undef, tt[36]?.getD undef, tt[37]?.getD undef, tt[38]?.getD undef, tt[39]?.getD undef, tt[40]?.getD undef, tt[41]?.getD undef] := (arr_lit hsz).trans rfl
        rw [g0, g1, g3, g4, g5, g6, g37, g39, g40, g41] at hl
        clear g0 g1 g3 g4 g5 g6 g37 g39 g40 g41 hsz
        generalize tt[2]?.getD undef = y2 at hl
        generalize tt[7]?.getD undef = y7 at hl
        generalize tt[8]?.getD undef = y8 at hl
        generalize tt[9]?.getD undef = y9 at hl
        generalize tt[10]?.getD undef = y10 at hl
        generalize tt[11]?.getD undef = y11 at hl
        generalize tt[12]?.getD undef = y12 at hl
        generalize tt[13]?.getD undef = y13 at hl
        generalize tt[14]?.getD undef = y14 at hl
        generalize tt[15]?.getD undef = y15 at hl
        generalize tt[16]?.getD undef = y16 at hl
        generalize tt[17]?.getD undef = y17 at hl
        generalize tt[18]?.getD undef = y18 at hl
        generalize tt[19]?.getD undef = y19 at hl
        generalize tt[20]?.getD undef = y20 at hl
        generalize tt[21]?.getD undef = y21 at hl
        generalize tt[22]?.getD undef = y22 at hl
        generalize tt[23]?.getD undef = y23 at hl
        generalize tt[24]?.getD undef = y24 at hl
        generalize tt[25]?.getD undef = y25 at hl
        generalize tt[26]?.getD undef = y26 at hl
        generalize tt[27]?.getD undef = y27 at hl
        generalize tt[28]?.getD undef = y28 at hl
        generalize tt[29]?.getD undef = y29 at hl
        generalize tt[30]?.getD undef = y30 at hl
        generalize tt[31]?.getD undef = y31 at hl
        generalize tt[32]?.getD undef = y32 at hl
        generalize tt[33]?.getD undef = y33 at hl
        generalize tt[34]?.getD undef = y34 at hl
        generalize tt[35]?.getD undef = y35 at hl
        generalize tt[36]?.getD undef = y36 at hl
        generalize tt[38]?.getD undef = y38 at hl
        subst hl
        clear hc0 hc1 P2 Q0 Q1 HE
        cases bb
        · have HY : Hid (alls (cyAt xs) (k + 1) = true) := Lib.hid (by rw [HA.out, HBB.out]; rfl)
          go_wp2
          go_roundw
          case rel => exact ⟨k + 1, nn, by omega, by go_num, HY, rfl⟩
          case measure => simp [intOf]; omega
        · have HN : Hid (areC xs = false) := Lib.hid (HNo.out (by rw [HA.out, HBB.out]; rfl))
          go_wp2
          go_ret
          exact ⟨by rw [HN.out]; rfl, nn, rfl⟩
    · have hkk : k = xs.length := by omega
      subst hkk
      by_cases h2 : xs.length ≤ 64
      · have HN : Hid (areC xs = true) := Lib.hid (by rw [areC_yes h2, hr.out])
        have HE : Hid (decide ((xs.length : Int) ≤ 64) = true) := Lib.hid (decide_eq_true (by omega))
        go_wp2
        go_ret
        exact ⟨by rw [HN.out]; show Ending.returned (.bool (decide ((xs.length : Int) ≤ 64))) = _; rw [HE.out], n, rfl⟩
      · have HN : Hid (areC xs = false) := Lib.hid (areC_no h2)
        have HE : Hid (decide ((xs.length : Int) ≤ 64) = false) := Lib.hid (decide_eq_false (by omega))
        go_wp2
        go_ret
        exact ⟨by rw [HN.out]; show Ending.returned (.bool (decide ((xs.length : Int) ≤ 64))) = _; rw [HE.out], n, rfl⟩
theorem s_AreCycles (A : Option Addr) (cap : Nat) (xs : List (Nat × Nat × Bool)) (w : World) (h : FlC w A xs) (hn : xs.length ≤ 1048576) :
    Calls Try.prog 15 #[.slice A xs.length cap] w fun e w' => e = .returned (.bool (areC xs)) ∧ Below w.heap.size w w' := by
  have HF := Lib.hid h; clear h
  go_enter Try.func15, Try.ntmps15
  go_wp2_with fail
  refine (s_l07Are A cap xs _ HF.out hn).mono ?_
  rintro e w' ⟨rfl, n, rfl⟩
  go_wp2
  go_ret
  exact ⟨rfl, below_draws (Below.refl _ _) _⟩
end Go.Proofs.Ytpchkedgjikpfab
