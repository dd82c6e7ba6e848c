/- Crossings of multiples of speeds and a tower's rate: the program's side. No statement is proved here. -/
import Derived.Test.YtpmjikchlofebaaCroM
import Derived.BigQuiet
import Derived.Deep.Cut
namespace Go.Proofs.Ytpmjikchlofebaa
open Go Go.RowKit
set_option maxHeartbeats 8000000 in
set_option maxRecDepth 100000 in
theorem i_CrossingsOf (m d s : Nat) (A B : Option Addr) (cap cb : Nat) (ms : List Int) (ss : List Nat) (w : World) (h : FlI w A ms) (h' : Fl w B ss) (hn : ms.length ≤ 1048576) (hn' : ss.length ≤ 1048576) :
    Calls Try.prog 51 #[.agg #[.float .f32 m, .float .f32 d, .float .f32 s], .slice A ms.length cap, .slice B ss.length cb] w fun e w' => ∃ A' c g q, e = .returned (.tuple #[.slice A' (croL m d s ms ss).length c, .bool (croC m d s ms ss)]) ∧ OwnII w' w.heap.size A' g q (croL m d s ms ss) ∧ Below w.heap.size w w' := by
  have HF := Lib.hid h; clear h
  have HF' := Lib.hid h'; clear h'
  have HB : ∀ o1, Hid (Below w.heap.size w (w.alloc o1)) := fun _ => Lib.hid ((Below.refl _ _).alloc (Nat.le_refl _) _)
  have K0 : ∀ t, Hid (BlkL (w.alloc (.cells #[.float .f32 m, .float .f32 d, .float .f32 s] t)) w.heap.size [.float .f32 m, .float .f32 d, .float .f32 s]) := fun _ => Lib.hid (blkL_at w #[.float .f32 m, .float .f32 d, .float .f32 s] _ rfl)
  have k0 := fun t => ((K0 t).out.2 0 _ rfl).1
  have k1 := fun t => ((K0 t).out.2 1 _ rfl).1
  have k2 := fun t => ((K0 t).out.2 2 _ rfl).1
  have HNo : ∀ W, Hid (croC m d s ms ss = false → Below w.heap.size w W → ∃ A' c g q, Ending.returned (.tuple #[.slice none 0 0, .bool false]) = .returned (.tuple #[.slice A' (croL m d s ms ss).length c, .bool (croC m d s ms ss)]) ∧ OwnII W w.heap.size A' g q (croL m d s ms ss) ∧ Below w.heap.size w W) := fun W => Lib.hid (fun hc hb => ⟨none, 0, 0, fun _ => 0, by rw [hc, croL_no hc]; rfl, .inl (croL_no hc), hb⟩)
  go_enter Try.func51, Try.ntmps51
  go_wp2_with fail
  refine (i_TowerRate m d s _).mono ?_
  rintro e w1 ⟨r, rfl, hr, b1⟩
  have B1 : Hid (Below w.heap.size w w1) := Lib.hid (below_of (HB _).out (HB _).out.size b1)
  have HR := Lib.hid hr
  clear b1 k0 k1 k2 K0 HB hr
  cases vt : twrO m d s
  · have HN := Lib.hid (croC_t (ms := ms) (ss := ss) vt)
    clear vt
    go_wp2
    go_ret2
    exact (HNo _).out HN.out B1.out
  obtain ⟨hr, hrf⟩ := rate_exact vt (HR.out.trans (rateR vt))
  have HT := Lib.hid vt
  have HRE := Lib.hid hr
  have HRF := Lib.hid hrf
  clear vt hr hrf HR
  by_cases hm : ms.length ≤ 32
  rotate_left
  · have HN := Lib.hid (croC_n (m := m) (d := d) (s := s) (ss := ss) hm)
    have hmi : (32 : Int) < (ms.length : Int) := by omega
    clear hm
    go_wp2
    go_ret2
    exact (HNo _).out HN.out B1.out
  have hm32 : ¬ (32 : Int) < (ms.length : Int) := by omega
  have hm32b : decide ((32 : Int) < (ms.length : Int)) = false := decide_eq_false hm32
  have HM := Lib.hid hm
  clear hm
  go_wp2_with fail
  refine (i_hasNoMultiple A cap ms _ (HF.out.below B1.out) hn).mono ?_
  rintro e w' ⟨rfl, hw⟩
  obtain rfl : w1 = w' := hw.symm
  cases vm : alls (mulP ms) ms.length
  · have HN := Lib.hid (croC_m (m := m) (d := d) (s := s) (ss := ss) vm (Nat.le_refl _))
    clear vm
    go_wp2
    go_ret2
    exact (HNo _).out HN.out B1.out
  have HVM := Lib.hid vm
  clear vm
  by_cases hs : ss.length ≤ 64
  rotate_left
  · have HN := Lib.hid (croC_s (m := m) (d := d) (s := s) (ms := ms) hs)
    have hmi : (64 : Int) < (ss.length : Int) := by omega
    clear hs
    go_wp2
    go_ret2
    exact (HNo _).out HN.out B1.out
  have hm64 : ¬ (64 : Int) < (ss.length : Int) := by omega
  have hm64b : decide ((64 : Int) < (ss.length : Int)) = false := decide_eq_false hm64
  have HS := Lib.hid hs
  clear hs
  go_wp2_with fail
  refine (i_hasInfinite B cb ss _ (HF'.out.below B1.out) hn').mono ?_
  rintro e w' ⟨n, rfl, hw⟩
  have B2 : Hid (Below w.heap.size w w') := Lib.hid (by rw [hw]; exact below_draws B1.out _)
  clear hw B1
  cases vf : fins ss ss.length
  · have HN := Lib.hid (croC_f (m := m) (d := d) (s := s) (ms := ms) vf (Nat.le_refl _))
    clear vf
    go_wp2
    go_ret2
    exact (HNo _).out HN.out B2.out
  have HVF := Lib.hid vf
  clear vf HNo
  have HC : Hid (croC m d s ms ss = true) := Lib.hid (croC_yes HT.out HM.out HVM.out HS.out HVF.out)
  obtain ⟨w3, hw3⟩ : ∃ z, z = w'.alloc (.cells #[] 60) := ⟨_, rfl⟩
  have HST : Hid (GrII w3 w.heap.size (.slice (some ⟨w'.heap.size, 0, none⟩) 0 0) (fun _ => 0) []) := Lib.hid (by rw [hw3]; exact GrII.made w' _ 0 #[] _ B2.out.size (by decide) rfl)
  have B3 : Hid (Below w.heap.size w w3) := Lib.hid (by rw [hw3]; exact B2.out.alloc B2.out.size _)
  obtain ⟨i0, hi, hz0, hz1, hz2⟩ := info_parts i64s_info
  go_upto_region 5 with fail
  rw [← hw3]
  clear hw3 B2
  have h2 : Hid (ss.length ≤ 64) := HS
  go_wp2
  go_loopw [10, 43] (fun v i wr => ∃ (k : Nat) (q : Nat → Nat) (vs : List (Int × Int)), k ≤ ms.length ∧ i = .int .i64 k ∧ Hid (GrII wr w.heap.size v q vs) ∧ Hid (vs = croAll r ms ss k) ∧ Hid (Below w.heap.size w wr)) (fun _ i _ => ms.length - (intOf i).toNat)
  case atStart => exact ⟨0, _, [], Nat.zero_le _, rfl, HST, Lib.hid rfl, B3⟩
  case round =>
    obtain ⟨p, q, vs, hp, rfl, HG, HV, HBR⟩ := hrel
    by_cases hlt : p < ms.length
    · obtain ⟨bm, om, rfl, -, hcm⟩ := (HF.out.below HBR.out).at_ hlt
      have HMP : Hid (mulP ms p = true) := Lib.hid (alls_at HVM.out p hlt)
      have HLT := Lib.hid hlt
      obtain ⟨tm, htm⟩ : ∃ z, z = floatOfInt .f32 (ms.getD p 0) := ⟨_, rfl⟩
      have HTM := Lib.hid htm
      obtain ⟨mp, hmp⟩ : ∃ z, z = ms.getD p 0 := ⟨_, rfl⟩
      rw [← hmp] at hcm htm
      clear hmp
      go_wp2
      rw [← htm]
      clear htm hcm
      go_loopw [10, 14] (fun v i wq => ∃ (k : Nat) (q : Nat → Nat) (vs : List (Int × Int)), 1 ≤ k ∧ (k ≤ ss.length ∨ k = 1) ∧ i = .int .i64 k ∧ Hid (GrII wq w.heap.size v q vs) ∧ Hid (vs = croAll r ms ss p ++ croRow r ms ss p (k - 1)) ∧ Hid (Below w.heap.size w wq)) (fun _ i _ => ss.length - (intOf i).toNat)
      case atStart => exact ⟨1, q, vs, Nat.le_refl _, .inr rfl, rfl, HG, Lib.hid (by rw [HV.out]; simp [croRow]), HBR⟩
      case round =>
        obtain ⟨k, q2, vs2, hk1, hk2, rfl, HG2, HV2, HBQ⟩ := hrel
        by_cases hlk : k < ss.length
        · obtain ⟨j, hj⟩ : ∃ j, j + 1 = k := ⟨k - 1, by omega⟩
          obtain ⟨bs, os, rfl, hbs, hc2⟩ := (HF'.out.below HBQ.out).at_ hlk
          have hc1 := ((HF'.out.below HBQ.out).at_ (k := j) (by omega))
          obtain ⟨bs', os', hE, -, hc1⟩ := hc1
          obtain ⟨rfl, rfl⟩ : bs = bs' ∧ os = os' := by simpa using hE
          clear hE
          have hsub : IntKind.i64.wrap ((k : Int) - 1) = (j : Int) := by rw [show (k : Int) - 1 = (j : Int) by omega]; exact IntWalk.i64_in _ (by omega)
          have f1 := croV_sure HMP.out (fins_at HVF.out (show j < ss.length by omega))
          have f2 := croV_sure HMP.out (fins_at HVF.out hlk)
          rw [← HTM.out] at f1 f2
          have HCB : Hid (croB r ms ss p j = (lss32 (croV ms ss p j) r != lss32 (croV ms ss p k) r)) := Lib.hid (by unfold croB; rw [hj])
          have HROW : Hid (croRow r ms ss p k = croRow r ms ss p j ++ (if croB r ms ss p j then [((p : Int), (j : Int))] else [])) := Lib.hid (by rw [← hj]; rfl)
          have HLEN : Hid (vs2.length ≤ 2016) := Lib.hid (by rw [HV2.out]; exact cro_le HLT.out HM.out HS.out (by omega))
          have HV2' : Hid (vs2 = croAll r ms ss p ++ croRow r ms ss p j) := Lib.hid (by rw [HV2.out, ← hj]; rfl)
          have hjj := hj
          generalize croV ms ss p j = V1 at f1 HCB
          generalize croV ms ss p k = V2 at f2 HCB
          generalize ss.getD j 0 = x1 at hc1 f1
          generalize ss.getD k 0 = x2 at hc2 f2
          obtain ⟨f1a, f1b⟩ := f1
          obtain ⟨f2a, f2b⟩ := f2
          clear hbs hj
          have HJK := Lib.hid hjj
          clear hjj
          have hjl : j < ss.length := by have := HJK.out; omega
          have hdd : ∀ nn j, ∃ mm, (wr.drewN nn).drewN j = wr.drewN mm := fun nn j => ⟨nn + j, World.drewN_drewN ..⟩
          go_upto_region 12 with fail
          refine wp_region_inv3 (fun iq v => match iq with
            | 0 => v = .float .f32 r
            | 1 => v = .float .f32 tm
            | 2 => v = .slice (some ⟨bs, os, none⟩) ss.length cb
            | 3 => v = .int .i64 k
            | 4 => v = .int .i64 j
            | 5 => v = .pointer (some ⟨bs, os + j, none⟩)
            | 6 => v = .float .f32 x1
            | 7 => v = .float .f32 V1
            | 8 => v = .float .f32 tm
            | 9 => v = .slice (some ⟨bs, os, none⟩) ss.length cb
            | 10 => v = .int .i64 k
            | 11 => v = .pointer (some ⟨bs, os + k, none⟩)
            | 12 => v = .float .f32 x2
            | 13 => v = .float .f32 V2
            | 14 => v = .bool (lss32 V1 r != lss32 V2 r)
            | _ => False) (fun _ ww => ∃ nn, ww = wr.drewN nn) (by kernel_rfl) (by kernel_rfl) ⟨1, rfl⟩ ?hop ?hend
          case hop =>
            intro q o hq listed act w3 hI hnot hcl hall
            obtain ⟨nq, rfl⟩ := hI.cls
            rcases q with _ | _ | _ | _ | _ | _ | _ | _ | _ | _ | _ | _ | _ | _ | _ | q
            · simp at hq; subst hq
              have g8 : act.tmps[8]?.getD undef = .float .f32 r := hI.kept 8 (by kernel_rfl)
              clear hI hall hnot hcl
              refine .inl ⟨wanted_none rfl, ?_⟩
              unfold Oper.wp
              go_simp
              all_goals exact ⟨_, rfl, rfl, ⟨_, rfl⟩⟩
            · simp at hq; subst hq
              have g13 : act.tmps[13]?.getD undef = .float .f32 tm := hI.kept 13 (by kernel_rfl)
              clear hI hall hnot hcl
              refine .inl ⟨wanted_none rfl, ?_⟩
              unfold Oper.wp
              go_simp
              all_goals exact ⟨_, rfl, rfl, ⟨_, rfl⟩⟩
            · simp at hq; subst hq
              have g2 : act.tmps[2]?.getD undef = .slice (some ⟨bs, os, none⟩) ss.length cb := hI.kept 2 (by kernel_rfl)
              clear hI hall hnot hcl
              refine .inl ⟨wanted_none rfl, ?_⟩
              unfold Oper.wp
              go_simp
              all_goals exact ⟨_, rfl, rfl, ⟨_, rfl⟩⟩
            · simp at hq; subst hq
              have g14 : act.tmps[14]?.getD undef = .int .i64 k := hI.kept 14 (by kernel_rfl)
              clear hI hall hnot hcl
              refine .inl ⟨wanted_none rfl, ?_⟩
              unfold Oper.wp
              go_simp
              all_goals exact ⟨_, rfl, rfl, ⟨_, rfl⟩⟩
            · simp at hq; subst hq
              have g59 : act.tmps[59]?.getD undef = .int .i64 k := hI.has 3 59 rfl (hall ⟨3, .data⟩ (by simp) rfl)
              clear hI hall hnot hcl
              refine .inl ⟨wanted_none rfl, ?_⟩
              unfold Oper.wp
              go_simp
              all_goals exact ⟨_, rfl, rfl, ⟨_, rfl⟩⟩
            · simp at hq; subst hq
              have g58 : act.tmps[58]?.getD undef = .slice (some ⟨bs, os, none⟩) ss.length cb := hI.has 2 58 rfl (hall ⟨2, .data⟩ (by simp) rfl)
              have g60 : act.tmps[60]?.getD undef = .int .i64 j := hI.has 4 60 rfl (hall ⟨4, .data⟩ (by simp) rfl)
              clear hI hall hnot hcl
              refine .inl ⟨wanted_none rfl, ?_⟩
              unfold Oper.wp
              go_simp
              all_goals exact ⟨_, rfl, rfl, ⟨_, rfl⟩⟩
            · simp at hq; subst hq
              have g61 : act.tmps[61]?.getD undef = .pointer (some ⟨bs, os + j, none⟩) := hI.has 5 61 rfl (hall ⟨5, .data⟩ (by simp) rfl)
              clear hI hall hnot hcl
              refine .inl ⟨wanted_none rfl, ?_⟩
              unfold Oper.wp
              go_simp
              all_goals exact ⟨_, rfl, rfl, ⟨_, rfl⟩⟩
            · simp at hq; subst hq
              have g57 : act.tmps[57]?.getD undef = .float .f32 tm := hI.has 1 57 rfl (hall ⟨1, .data⟩ (by simp) rfl)
              have g62 : act.tmps[62]?.getD undef = .float .f32 x1 := hI.has 6 62 rfl (hall ⟨6, .data⟩ (by simp) rfl)
              clear hI hall hnot hcl
              refine .inl ⟨wanted_none rfl, ?_⟩
              unfold Oper.wp
              go_simp
              all_goals exact ⟨_, rfl, rfl, ⟨_, rfl⟩⟩
            · simp at hq; subst hq
              have g13 : act.tmps[13]?.getD undef = .float .f32 tm := hI.kept 13 (by kernel_rfl)
              clear hI hall hnot hcl
              refine .inl ⟨wanted_none rfl, ?_⟩
              unfold Oper.wp
              go_simp
              all_goals exact ⟨_, rfl, rfl, ⟨_, rfl⟩⟩
            · simp at hq; subst hq
              have g2 : act.tmps[2]?.getD undef = .slice (some ⟨bs, os, none⟩) ss.length cb := hI.kept 2 (by kernel_rfl)
              clear hI hall hnot hcl
              refine .inl ⟨wanted_none rfl, ?_⟩
              unfold Oper.wp
              go_simp
              all_goals exact ⟨_, rfl, rfl, ⟨_, rfl⟩⟩
            · simp at hq; subst hq
              have g14 : act.tmps[14]?.getD undef = .int .i64 k := hI.kept 14 (by kernel_rfl)
              clear hI hall hnot hcl
              refine .inl ⟨wanted_none rfl, ?_⟩
              unfold Oper.wp
              go_simp
              all_goals exact ⟨_, rfl, rfl, ⟨_, rfl⟩⟩
            · simp at hq; subst hq
              have g65 : act.tmps[65]?.getD undef = .slice (some ⟨bs, os, none⟩) ss.length cb := hI.has 9 65 rfl (hall ⟨9, .data⟩ (by simp) rfl)
              have g66 : act.tmps[66]?.getD undef = .int .i64 k := hI.has 10 66 rfl (hall ⟨10, .data⟩ (by simp) rfl)
              clear hI hall hnot hcl
              refine .inl ⟨wanted_none rfl, ?_⟩
              unfold Oper.wp
              go_simp
              all_goals exact ⟨_, rfl, rfl, ⟨_, rfl⟩⟩
            · simp at hq; subst hq
              have g67 : act.tmps[67]?.getD undef = .pointer (some ⟨bs, os + k, none⟩) := hI.has 11 67 rfl (hall ⟨11, .data⟩ (by simp) rfl)
              clear hI hall hnot hcl
              refine .inl ⟨wanted_none rfl, ?_⟩
              unfold Oper.wp
              go_simp
              all_goals exact ⟨_, rfl, rfl, ⟨_, rfl⟩⟩
            · simp at hq; subst hq
              have g64 : act.tmps[64]?.getD undef = .float .f32 tm := hI.has 8 64 rfl (hall ⟨8, .data⟩ (by simp) rfl)
              have g68 : act.tmps[68]?.getD undef = .float .f32 x2 := hI.has 12 68 rfl (hall ⟨12, .data⟩ (by simp) rfl)
              clear hI hall hnot hcl
              refine .inl ⟨wanted_none rfl, ?_⟩
              unfold Oper.wp
              go_simp
              all_goals exact ⟨_, rfl, rfl, ⟨_, rfl⟩⟩
            · simp at hq; subst hq
              have g56 : act.tmps[56]?.getD undef = .float .f32 r := hI.has 0 56 rfl (hall ⟨0, .data⟩ (by simp) rfl)
              have g63 : act.tmps[63]?.getD undef = .float .f32 V1 := hI.has 7 63 rfl (hall ⟨7, .data⟩ (by simp) rfl)
              have g69 : act.tmps[69]?.getD undef = .float .f32 V2 := hI.has 13 69 rfl (hall ⟨13, .data⟩ (by simp) rfl)
              clear hI hall hnot hcl
              refine .inl ⟨wanted_none rfl, ?_⟩
              unfold Oper.wp
              go_simp
              refine (i_crosses _ _ _ _).mono ?_
              rintro e w4 ⟨rfl, rfl⟩
              exact ⟨_, rfl, rfl, ⟨_, rfl⟩⟩
            · simp at hq
          case hend =>
            intro listed act w3 hI hall
            obtain ⟨nq, rfl⟩ := hI.cls
            have g70 : act.tmps[70]?.getD undef = .bool (lss32 V1 r != lss32 V2 r) := hI.has 14 70 rfl (hall 14 (by decide))
            first | have g0 : act.tmps[0]?.getD undef = undef := hI.kept 0 (by kernel_rfl) | (have g0 := hI.kept 0 (by kernel_rfl); conv at g0 => rhs; whnf)
            first | have g1 : act.tmps[1]?.getD undef = undef := hI.kept 1 (by kernel_rfl) | (have g1 := hI.kept 1 (by kernel_rfl); conv at g1 => rhs; whnf)
            first | have g2 : act.tmps[2]?.getD undef = undef := hI.kept 2 (by kernel_rfl) | (have g2 := hI.kept 2 (by kernel_rfl); conv at g2 => rhs; whnf)
            first | have g3 : act.tmps[3]?.getD undef = undef := hI.kept 3 (by kernel_rfl) | (have g3 := hI.kept 3 (by kernel_rfl); conv at g3 => rhs; whnf)
            first | have g4 : act.tmps[4]?.getD undef = undef := hI.kept 4 (by kernel_rfl) | (have g4 := hI.kept 4 (by kernel_rfl); conv at g4 => rhs; whnf)
            first | have g5 : act.tmps[5]?.getD undef = undef := hI.kept 5 (by kernel_rfl) | (have g5 := hI.kept 5 (by kernel_rfl); conv at g5 => rhs; whnf)
            first | have g6 : act.tmps[6]?.getD undef = undef := hI.kept 6 (by kernel_rfl) | (have g6 := hI.kept 6 (by kernel_rfl); conv at g6 => rhs; whnf)
            first | have g7 : act.tmps[7]?.getD undef = undef := hI.kept 7 (by kernel_rfl) | (have g7 := hI.kept 7 (by kernel_rfl); conv at g7 => rhs; whnf)
            first | have g8 : act.tmps[8]?.getD undef = undef := hI.kept 8 (by kernel_rfl) | (have g8 := hI.kept 8 (by kernel_rfl); conv at g8 => rhs; whnf)
            first | have g9 : act.tmps[9]?.getD undef = undef := hI.kept 9 (by kernel_rfl) | (have g9 := hI.kept 9 (by kernel_rfl); conv at g9 => rhs; whnf)
            first | have g10 : act.tmps[10]?.getD undef = undef := hI.kept 10 (by kernel_rfl) | (have g10 := hI.kept 10 (by kernel_rfl); conv at g10 => rhs; whnf)
            first | have g11 : act.tmps[11]?.getD undef = undef := hI.kept 11 (by kernel_rfl) | (have g11 := hI.kept 11 (by kernel_rfl); conv at g11 => rhs; whnf)
            first | have g12 : act.tmps[12]?.getD undef = undef := hI.kept 12 (by kernel_rfl) | (have g12 := hI.kept 12 (by kernel_rfl); conv at g12 => rhs; whnf)
            first | have g13 : act.tmps[13]?.getD undef = undef := hI.kept 13 (by kernel_rfl) | (have g13 := hI.kept 13 (by kernel_rfl); conv at g13 => rhs; whnf)
            first | have g14 : act.tmps[14]?.getD undef = undef := hI.kept 14 (by kernel_rfl) | (have g14 := hI.kept 14 (by kernel_rfl); conv at g14 => rhs; whnf)
            first | have g15 : act.tmps[15]?.getD undef = undef := hI.kept 15 (by kernel_rfl) | (have g15 := hI.kept 15 (by kernel_rfl); conv at g15 => rhs; whnf)
            first | have g16 : act.tmps[16]?.getD undef = undef := hI.kept 16 (by kernel_rfl) | (have g16 := hI.kept 16 (by kernel_rfl); conv at g16 => rhs; whnf)
            first | have g17 : act.tmps[17]?.getD undef = undef := hI.kept 17 (by kernel_rfl) | (have g17 := hI.kept 17 (by kernel_rfl); conv at g17 => rhs; whnf)
            first | have g18 : act.tmps[18]?.getD undef = undef := hI.kept 18 (by kernel_rfl) | (have g18 := hI.kept 18 (by kernel_rfl); conv at g18 => rhs; whnf)
            first | have g19 : act.tmps[19]?.getD undef = undef := hI.kept 19 (by kernel_rfl) | (have g19 := hI.kept 19 (by kernel_rfl); conv at g19 => rhs; whnf)
            first | have g20 : act.tmps[20]?.getD undef = undef := hI.kept 20 (by kernel_rfl) | (have g20 := hI.kept 20 (by kernel_rfl); conv at g20 => rhs; whnf)
            first | have g21 : act.tmps[21]?.getD undef = undef := hI.kept 21 (by kernel_rfl) | (have g21 := hI.kept 21 (by kernel_rfl); conv at g21 => rhs; whnf)
            first | have g22 : act.tmps[22]?.getD undef = undef := hI.kept 22 (by kernel_rfl) | (have g22 := hI.kept 22 (by kernel_rfl); conv at g22 => rhs; whnf)
            first | have g23 : act.tmps[23]?.getD undef = undef := hI.kept 23 (by kernel_rfl) | (have g23 := hI.kept 23 (by kernel_rfl); conv at g23 => rhs; whnf)
            first | have g24 : act.tmps[24]?.getD undef = undef := hI.kept 24 (by kernel_rfl) | (have g24 := hI.kept 24 (by kernel_rfl); conv at g24 => rhs; whnf)
            first | have g25 : act.tmps[25]?.getD undef = undef := hI.kept 25 (by kernel_rfl) | (have g25 := hI.kept 25 (by kernel_rfl); conv at g25 => rhs; whnf)
            first | have g26 : act.tmps[26]?.getD undef = undef := hI.kept 26 (by kernel_rfl) | (have g26 := hI.kept 26 (by kernel_rfl); conv at g26 => rhs; whnf)
            first | have g27 : act.tmps[27]?.getD undef = undef := hI.kept 27 (by kernel_rfl) | (have g27 := hI.kept 27 (by kernel_rfl); conv at g27 => rhs; whnf)
            first | have g28 : act.tmps[28]?.getD undef = undef := hI.kept 28 (by kernel_rfl) | (have g28 := hI.kept 28 (by kernel_rfl); conv at g28 => rhs; whnf)
            first | have g29 : act.tmps[29]?.getD undef = undef := hI.kept 29 (by kernel_rfl) | (have g29 := hI.kept 29 (by kernel_rfl); conv at g29 => rhs; whnf)
            first | have g30 : act.tmps[30]?.getD undef = undef := hI.kept 30 (by kernel_rfl) | (have g30 := hI.kept 30 (by kernel_rfl); conv at g30 => rhs; whnf)
            first | have g31 : act.tmps[31]?.getD undef = undef := hI.kept 31 (by kernel_rfl) | (have g31 := hI.kept 31 (by kernel_rfl); conv at g31 => rhs; whnf)
            first | have g32 : act.tmps[32]?.getD undef = undef := hI.kept 32 (by kernel_rfl) | (have g32 := hI.kept 32 (by kernel_rfl); conv at g32 => rhs; whnf)
            first | have g33 : act.tmps[33]?.getD undef = undef := hI.kept 33 (by kernel_rfl) | (have g33 := hI.kept 33 (by kernel_rfl); conv at g33 => rhs; whnf)
            first | have g34 : act.tmps[34]?.getD undef = undef := hI.kept 34 (by kernel_rfl) | (have g34 := hI.kept 34 (by kernel_rfl); conv at g34 => rhs; whnf)
            first | have g35 : act.tmps[35]?.getD undef = undef := hI.kept 35 (by kernel_rfl) | (have g35 := hI.kept 35 (by kernel_rfl); conv at g35 => rhs; whnf)
            first | have g36 : act.tmps[36]?.getD undef = undef := hI.kept 36 (by kernel_rfl) | (have g36 := hI.kept 36 (by kernel_rfl); conv at g36 => rhs; whnf)
            first | have g37 : act.tmps[37]?.getD undef = undef := hI.kept 37 (by kernel_rfl) | (have g37 := hI.kept 37 (by kernel_rfl); conv at g37 => rhs; whnf)
            first | have g38 : act.tmps[38]?.getD undef = undef := hI.kept 38 (by kernel_rfl) | (have g38 := hI.kept 38 (by kernel_rfl); conv at g38 => rhs; whnf)
            first | have g39 : act.tmps[39]?.getD undef = undef := hI.kept 39 (by kernel_rfl) | (have g39 := hI.kept 39 (by kernel_rfl); conv at g39 => rhs; whnf)
            first | have g40 : act.tmps[40]?.getD undef = undef := hI.kept 40 (by kernel_rfl) | (have g40 := hI.kept 40 (by kernel_rfl); conv at g40 => rhs; whnf)
            first | have g41 : act.tmps[41]?.getD undef = undef := hI.kept 41 (by kernel_rfl) | (have g41 := hI.kept 41 (by kernel_rfl); conv at g41 => rhs; whnf)
            first | have g42 : act.tmps[42]?.getD undef = undef := hI.kept 42 (by kernel_rfl) | (have g42 := hI.kept 42 (by kernel_rfl); conv at g42 => rhs; whnf)
            first | have g43 : act.tmps[43]?.getD undef = undef := hI.kept 43 (by kernel_rfl) | (have g43 := hI.kept 43 (by kernel_rfl); conv at g43 => rhs; whnf)
            first | have g44 : act.tmps[44]?.getD undef = undef := hI.kept 44 (by kernel_rfl) | (have g44 := hI.kept 44 (by kernel_rfl); conv at g44 => rhs; whnf)
            first | have g45 : act.tmps[45]?.getD undef = undef := hI.kept 45 (by kernel_rfl) | (have g45 := hI.kept 45 (by kernel_rfl); conv at g45 => rhs; whnf)
            first | have g46 : act.tmps[46]?.getD undef = undef := hI.kept 46 (by kernel_rfl) | (have g46 := hI.kept 46 (by kernel_rfl); conv at g46 => rhs; whnf)
            first | have g47 : act.tmps[47]?.getD undef = undef := hI.kept 47 (by kernel_rfl) | (have g47 := hI.kept 47 (by kernel_rfl); conv at g47 => rhs; whnf)
            first | have g48 : act.tmps[48]?.getD undef = undef := hI.kept 48 (by kernel_rfl) | (have g48 := hI.kept 48 (by kernel_rfl); conv at g48 => rhs; whnf)
            first | have g49 : act.tmps[49]?.getD undef = undef := hI.kept 49 (by kernel_rfl) | (have g49 := hI.kept 49 (by kernel_rfl); conv at g49 => rhs; whnf)
            first | have g50 : act.tmps[50]?.getD undef = undef := hI.kept 50 (by kernel_rfl) | (have g50 := hI.kept 50 (by kernel_rfl); conv at g50 => rhs; whnf)
            first | have g51 : act.tmps[51]?.getD undef = undef := hI.kept 51 (by kernel_rfl) | (have g51 := hI.kept 51 (by kernel_rfl); conv at g51 => rhs; whnf)
            first | have g52 : act.tmps[52]?.getD undef = undef := hI.kept 52 (by kernel_rfl) | (have g52 := hI.kept 52 (by kernel_rfl); conv at g52 => rhs; whnf)
            first | have g53 : act.tmps[53]?.getD undef = undef := hI.kept 53 (by kernel_rfl) | (have g53 := hI.kept 53 (by kernel_rfl); conv at g53 => rhs; whnf)
            first | have g54 : act.tmps[54]?.getD undef = undef := hI.kept 54 (by kernel_rfl) | (have g54 := hI.kept 54 (by kernel_rfl); conv at g54 => rhs; whnf)
            first | have g55 : act.tmps[55]?.getD undef = undef := hI.kept 55 (by kernel_rfl) | (have g55 := hI.kept 55 (by kernel_rfl); conv at g55 => rhs; whnf)
            first | have g71 : act.tmps[71]?.getD undef = undef := hI.kept 71 (by kernel_rfl) | (have g71 := hI.kept 71 (by kernel_rfl); conv at g71 => rhs; whnf)
            first | have g72 : act.tmps[72]?.getD undef = undef := hI.kept 72 (by kernel_rfl) | (have g72 := hI.kept 72 (by kernel_rfl); conv at g72 => rhs; whnf)
            first | have g73 : act.tmps[73]?.getD undef = undef := hI.kept 73 (by kernel_rfl) | (have g73 := hI.kept 73 (by kernel_rfl); conv at g73 => rhs; whnf)
            first | have g74 : act.tmps[74]?.getD undef = undef := hI.kept 74 (by kernel_rfl) | (have g74 := hI.kept 74 (by kernel_rfl); conv at g74 => rhs; whnf)
            first | have g75 : act.tmps[75]?.getD undef = undef := hI.kept 75 (by kernel_rfl) | (have g75 := hI.kept 75 (by kernel_rfl); conv at g75 => rhs; whnf)
            first | have g76 : act.tmps[76]?.getD undef = undef := hI.kept 76 (by kernel_rfl) | (have g76 := hI.kept 76 (by kernel_rfl); conv at g76 => rhs; whnf)
            first | have g77 : act.tmps[77]?.getD undef = undef := hI.kept 77 (by kernel_rfl) | (have g77 := hI.kept 77 (by kernel_rfl); conv at g77 => rhs; whnf)
            first | have g78 : act.tmps[78]?.getD undef = undef := hI.kept 78 (by kernel_rfl) | (have g78 := hI.kept 78 (by kernel_rfl); conv at g78 => rhs; whnf)
            first | have g79 : act.tmps[79]?.getD undef = undef := hI.kept 79 (by kernel_rfl) | (have g79 := hI.kept 79 (by kernel_rfl); conv at g79 => rhs; whnf)
            have hsz : act.tmps.size = 80 := hI.size.trans (by kernel_rfl)
            have hd := hI.defers
            clear hI hall hdd
            obtain ⟨tt, dd⟩ := act
            simp only at g0 g1 g2 g3 g4 g5 g6 g7 g8 g9 g10 g11 g12 g13 g14 g15 g16 g17 g18 g19 g20 g21 g22 g23 g24 g25 g26 g27 g28 g29 g30 g31 g32 g33 g34 g35 g36 g37 g38 g39 g40 g41 g42 g43 g44 g45 g46 g47 g48 g49 g50 g51 g52 g53 g54 g55 g70 g71 g72 g73 g74 g75 g76 g77 g78 g79 hsz hd
            subst hd
            have hl : tt = #[tt[0]?.getD undef, tt[1]?.getD undef, tt[2]?.getD undef, tt[3]?.getD undef, tt[4]?.getD undef, tt[5]?.getD undef, tt[6]?.getD undef, tt[7]?.getD undef, tt[8]?.getD undef, tt[9]?.getD undef, tt[10]?.getD undef, tt[11]?.getD undef, tt[12]?.getD undef, tt[13]?.getD undef, tt[14]?.getD undef, tt[15]?.getD undef, tt[16]?.getD undef, tt[17]?.getD undef, tt[18]?.getD undef, tt[19]?.getD undef, tt[20]?.getD undef, tt[21]?.getD undef, tt[22]?.getD undef, tt[23]?.getD undef, tt[24]?.getD undef, tt[25]?.getD undef, tt[26]?.getD undef, tt[27]?.getD undef, tt[28]?.getD undef, tt[29]?.getD undef, tt[30]?.getD undef, tt[31]?.getD undef, tt[32]?.getD undef, tt[33]?.getD undef, tt[34]?.getD undef, tt[35]?.getD undef, tt[36]?.getD undef, tt[37]?.getD undef, tt[38]?.getD undef, tt[39]?.getD undef, tt[40]?.getD undef, tt[41]?.getD undef, tt[42]?.getD undef, tt[43]?.getD undef, tt[44]?.getD undef, tt[45]?.getD undef, tt[46]?.getD undef, tt[47]?.getD undef, tt[48]?.getD undef, tt[49]?.getD undef, tt[50]?.getD undef, tt[51]?.getD undef, tt[52]?.getD undef, tt[53]?.getD undef, tt[54]?.getD undef, tt[55]?.getD undef, tt[56]?.getD undef, tt[57]?.getD undef, tt[58]?.getD undef, tt[59]?.getD undef, tt[60]?.getD undef, tt[61]?.getD undef, tt[62]?.getD undef, tt[63]?.getD undef, tt[64]?.getD undef, tt[65]?.getD undef, tt[66]?.getD undef, tt[67]?.getD undef, tt[68]?.getD undef, tt[69]?.getD undef, tt[70]?.getD undef, tt[71]?.getD undef, tt[72]?.getD undef, tt[73]?.getD undef, tt[74]?.getD undef, tt[75]?.getD undef, tt[76]?.getD undef, tt[77]?.getD undef, tt[78]?.getD undef, tt[79]?.getD undef] := (arr_lit hsz).trans rfl
            rw [g0, g1, g2, g3, g4, g5, g6, g7, g8, g9, g10, g11, g12, g13, g14, g15, g16, g17, g18, g19, g20, g21, g22, g23, g24, g25, g26, g27, g28, g29, g30, g31, g32, g33, g34, g35, g36, g37, g38, g39, g40, g41, g42, g43, g44, g45, g46, g47, g48, g49, g50, g51, g52, g53, g54, g55, g70, g71, g72, g73, g74, g75, g76, g77, g78, g79] at hl
            clear g0 g1 g2 g3 g4 g5 g6 g7 g8 g9 g10 g11 g12 g13 g14 g15 g16 g17 g18 g19 g20 g21 g22 g23 g24 g25 g26 g27 g28 g29 g30 g31 g32 g33 g34 g35 g36 g37 g38 g39 g40 g41 g42 g43 g44 g45 g46 g47 g48 g49 g50 g51 g52 g53 g54 g55 g70 g71 g72 g73 g74 g75 g76 g77 g78 g79 hsz
            generalize tt[56]?.getD undef = y56 at hl
            generalize tt[57]?.getD undef = y57 at hl
            generalize tt[58]?.getD undef = y58 at hl
            generalize tt[59]?.getD undef = y59 at hl
            generalize tt[60]?.getD undef = y60 at hl
            generalize tt[61]?.getD undef = y61 at hl
            generalize tt[62]?.getD undef = y62 at hl
            generalize tt[63]?.getD undef = y63 at hl
            generalize tt[64]?.getD undef = y64 at hl
            generalize tt[65]?.getD undef = y65 at hl
            generalize tt[66]?.getD undef = y66 at hl
            generalize tt[67]?.getD undef = y67 at hl
            generalize tt[68]?.getD undef = y68 at hl
            generalize tt[69]?.getD undef = y69 at hl
            subst hl
            clear hsub f1a f1b f2a f2b hc1 hc2
            obtain ⟨w5, hw5⟩ : ∃ z, z = wr.drewN nq := ⟨_, rfl⟩
            have HG5 : Hid (GrII w5 w.heap.size _ q2 vs2) := Lib.hid (by rw [hw5]; exact HG2.out)
            have HB5 : Hid (Below w.heap.size w w5) := Lib.hid (by rw [hw5]; exact below_draws HBQ.out _)
            rw [← hw5]
            clear hw5
            cases pc : (lss32 V1 r != lss32 V2 r)
            · have HVK : Hid (vs2 = croAll r ms ss p ++ croRow r ms ss p (k + 1 - 1)) := Lib.hid (by rw [HV2'.out, Nat.add_sub_cancel, HROW.out, HCB.out, pc]; simp)
              clear pc
              go_wp2
              go_roundw
              case rel => exact ⟨k + 1, q2, vs2, by omega, .inl (by omega), by go_num, HG5, HVK, HB5⟩
              case measure => simp [intOf]; omega
            · have HVK : Hid (vs2 ++ [((p : Int), (j : Int))] = croAll r ms ss p ++ croRow r ms ss p (k + 1 - 1)) := Lib.hid (by rw [HV2'.out, Nat.add_sub_cancel, HROW.out, HCB.out, pc]; simp)
              have hsub : IntKind.i64.wrap ((k : Int) - 1) = (j : Int) := by rw [show (k : Int) - 1 = (j : Int) by have := HJK.out; omega]; exact IntWalk.i64_in _ (by have := HJK.out; have := HS.out; omega)
              have hown := HG5.out.1
              clear pc
              go_wp2_with (first
                | (at_builtin; refine wpList_append_own_at _ rfl _ _ 76 rfl w.heap.size 60 i0 (.slice none 0 0) 1 24 Try.underlying76 hi hz0 hz1 hz2 rfl (by decide) _ _ _ rfl ((hown.alloc _).alloc _) ⟨_, 0, none⟩ 1 1 [.slice (some ⟨w5.heap.size, 0, none⟩) 2 2] rfl rfl ?c1 ?c2 ?c3 ?c4 ?c5 ?_)
                | fail)
              case c1 =>
                intro j u hj
                match j, hj with
                | 0, hj => simp at hj; subst hj; simp [Addr.add]
              case c2 => intro u hu; simp at hu; subst hu; rfl
              case c3 => have := HLEN.out; unfold maxLen; omega
              case c4 => have := HLEN.out; omega
              case c5 => have := HB5.out.size; simp; omega
              · intro v' w6 hown' hgrow _ hat
                obtain ⟨g2, b2⟩ := GrII.next (x := (p : Int)) (y := (j : Int)) HG5.out HB5.out (Nat.le_refl _) HB5.out.size hown' hgrow hat
                have HG6 := Lib.hid g2
                have HB6 := Lib.hid b2
                clear g2 b2 hown hown' hgrow hat
                go_wp2
                go_roundw
                case rel => exact ⟨k + 1, _, _, by omega, .inl (by omega), by go_num, HG6, HVK, HB6⟩
                case measure => simp [intOf]; omega
        · have HVE : Hid (vs2 = croAll r ms ss (p + 1)) := Lib.hid (by
            rw [HV2.out]
            show _ = croAll r ms ss p ++ croRow r ms ss p (ss.length - 1)
            rw [show k - 1 = ss.length - 1 by omega])
          go_wp2
          go_roundw
          case rel => exact ⟨p + 1, _, _, by have := HLT.out; omega, by go_num, HG2, HVE, HBQ⟩
          case measure => have := HLT.out; simp [intOf]; omega
    · have hkk : p = ms.length := by omega
      subst hkk
      obtain ⟨A', cap', g, rfl, ho⟩ := HG.out.own
      have HO := Lib.hid ho
      have ey : croL m d s ms ss = vs := by rw [croL_yes HC.out, HV.out, HRE.out]
      clear ho
      go_wp2
      go_ret2
      exact ⟨A', cap', g, q, by rw [HC.out, ey]; rfl, by rw [ey]; exact HO.out, HBR.out⟩
end Go.Proofs.Ytpmjikchlofebaa
