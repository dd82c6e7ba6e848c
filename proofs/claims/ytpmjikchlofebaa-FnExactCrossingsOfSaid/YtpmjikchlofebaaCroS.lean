/- Crossings of multiples of speeds and a tower's rate: the specification's side. No statement is proved here. -/
import Derived.Test.YtpmjikchlofebaaCroM
import Derived.Deep.Cut
namespace Go.Proofs.Ytpmjikchlofebaa
open Go Go.RowKit
set_option maxHeartbeats 8000000 in
set_option maxRecDepth 100000 in
theorem s_CrossingsOf (m d s : Nat) (A B : Option Addr) (cap cb : Nat) (ms : List Int) (ss : List Nat) (w : World) (h : FlI w A ms) (h' : Fl w B ss) :
    Calls Try.prog 48 #[.agg #[.float .f32 m, .float .f32 d, .float .f32 s], .slice A ms.length cap, .slice B ss.length cb] w fun e w' => ∃ A' c g q, e = .returned (.tuple #[.slice A' (croL m d s ms ss).length c, .bool (croC m d s ms ss)]) ∧ OwnII w' w.heap.size A' g q (croL m d s ms ss) ∧ Below w.heap.size w w' := by
  have HF := Lib.hid h; clear h
  have HF' := Lib.hid h'; clear h'
  have HNo : ∀ W, Hid (croC m d s ms ss = false → Below w.heap.size w W → ∃ A' c g q, Ending.returned (.tuple #[.slice none 0 0, .bool false]) = .returned (.tuple #[.slice A' (croL m d s ms ss).length c, .bool (croC m d s ms ss)]) ∧ OwnII W w.heap.size A' g q (croL m d s ms ss) ∧ Below w.heap.size w W) := fun W => Lib.hid (fun hc hb => ⟨none, 0, 0, fun _ => 0, by rw [hc, croL_no hc]; rfl, .inl (croL_no hc), hb⟩)
  obtain ⟨w0, hw0⟩ : ∃ z, z = w.alloc (.cells #[.float .f32 m, .float .f32 d, .float .f32 s] 79) := ⟨_, rfl⟩
  have B0 : Hid (Below w.heap.size w w0) := Lib.hid (by rw [hw0]; exact (Below.refl _ _).alloc (Nat.le_refl _) _)
  have K0 : Hid (BlkL w0 w.heap.size [.float .f32 m, .float .f32 d, .float .f32 s]) := Lib.hid (by rw [hw0]; exact blkL_at w #[.float .f32 m, .float .f32 d, .float .f32 s] _ rfl)
  go_enter Try.func48, Try.ntmps48
  go_upto_region 1 with fail
  rw [← hw0]
  clear hw0
  go_wp2_with fail
  refine (s_l07Tower m d s _ _ K0.out).mono ?_
  rintro e w1 ⟨n, rfl, hw⟩
  have B1 : Hid (Below w.heap.size w w1) := Lib.hid (by rw [hw]; exact below_draws B0.out _)
  have K1 : Hid (BlkL w1 w.heap.size [.float .f32 m, .float .f32 d, .float .f32 s]) := Lib.hid (by rw [hw]; exact K0.out.below (below_draws (Below.refl _ _) _))
  clear hw B0 K0
  cases vt : towV m d s
  · have HN := Lib.hid (croC_t (ms := ms) (ss := ss) (show twrO m d s = false by unfold twrO; rw [vt]; rfl))
    clear vt
    go_wp2
    go_ret2
    exact (HNo _).out HN.out B1.out
  have HT := Lib.hid vt
  clear vt
  by_cases hm : ms.length ≤ 32
  rotate_left
  · have HN := Lib.hid (croC_n (m := m) (d := d) (s := s) (ss := ss) hm)
    have hmi : (32 : Int) < (ms.length : Int) := by omega
    clear hm
    go_wp2
    go_ret2
    exact (HNo _).out HN.out B1.out
  have hm32 : ¬ (32 : Int) < (ms.length : Int) := by omega
  have hm32b : decide ((32 : Int) < (ms.length : Int)) = false := decide_eq_false hm32
  have HM := Lib.hid hm
  clear hm
  by_cases hs : ss.length ≤ 64
  rotate_left
  · have HN := Lib.hid (croC_s (m := m) (d := d) (s := s) (ms := ms) hs)
    have hmi : (64 : Int) < (ss.length : Int) := by omega
    clear hs
    go_wp2
    go_ret2
    exact (HNo _).out HN.out B1.out
  have hm64 : ¬ (64 : Int) < (ss.length : Int) := by omega
  have hm64b : decide ((64 : Int) < (ss.length : Int)) = false := decide_eq_false hm64
  have HS := Lib.hid hs
  clear hs
  go_wp2
  go_loopw [30] (fun i wr => ∃ k : Nat, k ≤ ms.length ∧ i = .int .i64 k ∧ Hid (alls (mulP ms) k = true) ∧ w1 = wr) (fun i _ => ms.length - (intOf i).toNat)
  case atStart => exact ⟨0, Nat.zero_le _, rfl, Lib.hid rfl, rfl⟩
  case round =>
    obtain ⟨k, hk, rfl, HA, rfl⟩ := hrel
    by_cases hlt : k < ms.length
    · obtain ⟨bm, om, rfl, -, hc⟩ := (HF.out.below B1.out).at_ hlt
      have HMK : Hid (alls (mulP ms) (k + 1) = decide (1 ≤ ms.getD k 0 ∧ ms.getD k 0 ≤ 12)) := Lib.hid (by simp only [alls]; rw [HA.out, Bool.true_and]; rfl)
      generalize ms.getD k 0 = x at hc HMK
      obtain ⟨p, hp⟩ : ∃ p, p = decide (1 ≤ x ∧ x ≤ 12) := ⟨_, rfl⟩
      rw [← hp] at HMK
      go_wp2_with fail
      refine (l00In_any _ _ _ _).mono ?_
      rintro e w' ⟨rfl, hw⟩
      obtain rfl : w1 = w' := hw.symm
      rw [← hp]
      clear hp hc
      cases p
      · have HN := Lib.hid (croC_m (m := m) (d := d) (s := s) (ss := ss) HMK.out (by omega))
        go_wp2
        go_ret2
        exact (HNo _).out HN.out B1.out
      · go_wp2
        go_roundw
        case rel => exact ⟨k + 1, by omega, by go_num, HMK, by first | rfl | trivial⟩
        case measure => simp [intOf]; omega
    · have hkk : k = ms.length := by omega
      subst hkk
      have HVM := HA
      clear HA
      go_wp2
      go_loopw [42] (fun i wr => ∃ k : Nat, k ≤ ss.length ∧ i = .int .i64 k ∧ Hid (fins ss k = true) ∧ Hid (Below w.heap.size w wr) ∧ Hid (BlkL wr w.heap.size [.float .f32 m, .float .f32 d, .float .f32 s])) (fun i _ => ss.length - (intOf i).toNat)
      case atStart => exact ⟨0, Nat.zero_le _, rfl, Lib.hid rfl, B1, K1⟩
      case round =>
        obtain ⟨k, hk, rfl, HA, B2, K2⟩ := hrel
        by_cases hlt : k < ss.length
        · obtain ⟨bs, os, rfl, -, hc⟩ := (HF'.out.below B2.out).at_ hlt
          have HFK : Hid (fins ss (k + 1) = fin .f32 (ss.getD k 0)) := Lib.hid (by show (fins ss k && _) = _; rw [HA.out]; rfl)
          generalize ss.getD k 0 = x at hc HFK
          go_wp2_with fail
          refine (s_l01Finite _ _).mono ?_
          rintro e w' ⟨n2, rfl, hw⟩
          have B3 : Hid (Below w.heap.size w w') := Lib.hid (by rw [hw]; exact below_draws B2.out _)
          have K3 : Hid (BlkL w' w.heap.size [.float .f32 m, .float .f32 d, .float .f32 s]) := Lib.hid (by rw [hw]; exact K2.out.below (below_draws (Below.refl _ _) _))
          clear hw hc
          cases px : fin .f32 x
          · have HN := Lib.hid (croC_f (m := m) (d := d) (s := s) (ms := ms) (HFK.out.trans px) (by omega))
            clear px
            go_wp2
            go_ret2
            exact (HNo _).out HN.out B3.out
          · have HF2 : Hid (fins ss (k + 1) = true) := Lib.hid (HFK.out.trans px)
            clear px
            go_wp2
            go_roundw
            case rel => exact ⟨k + 1, by omega, by go_num, HF2, B3, K3⟩
            case measure => simp [intOf]; omega
        · have hkk : k = ss.length := by omega
          subst hkk
          have HVF := HA
          clear HA
          go_wp2_with fail
          refine (s_l07Rate m d s _ _ K2.out).mono ?_
          rintro e w3 ⟨r, n3, rfl, hr, hw⟩
          have B3 : Hid (Below w.heap.size w w3) := Lib.hid (by rw [hw]; exact below_draws B2.out _)
          have HR := Lib.hid hr
          clear hw hr B2 K2 K1 B1
          go_wp2_with fail
          refine (s_l01Finite _ _).mono ?_
          rintro e w4 ⟨n4, rfl, hw⟩
          have B4 : Hid (Below w.heap.size w w4) := Lib.hid (by rw [hw]; exact below_draws B3.out _)
          clear hw B3
          cases pr : fin .f32 r
          · have HN := Lib.hid (croC_t (m := m) (d := d) (s := s) (ms := ms) (ss := ss) (by unfold twrO; rw [← HR.out, fin_canon, pr, Bool.and_false]))
            clear pr
            go_wp2
            go_ret2
            exact (HNo _).out HN.out B4.out
          have hto : twrO m d s = true := by unfold twrO; rw [← HR.out, fin_canon, pr, HT.out]; rfl
          obtain ⟨hre, hrf⟩ := rate_exact hto HR.out
          have HRE := Lib.hid hre
          have HRF := Lib.hid hrf
          have HC : Hid (croC m d s ms ss = true) := Lib.hid (croC_yes hto HM.out HVM.out HS.out HVF.out)
          clear hto hre hrf HR pr HNo
          obtain ⟨w5, hw5⟩ : ∃ z, z = w4.alloc (.cells #[] 60) := ⟨_, rfl⟩
          have HST : Hid (GrII w5 w.heap.size (.slice (some ⟨w4.heap.size, 0, none⟩) 0 0) (fun _ => 0) []) := Lib.hid (by rw [hw5]; exact GrII.made w4 _ 0 #[] _ B4.out.size (by decide) rfl)
          have B5 : Hid (Below w.heap.size w w5) := Lib.hid (by rw [hw5]; exact B4.out.alloc B4.out.size _)
          obtain ⟨i0, hi, hz0, hz1, hz2⟩ := info_parts i64s_info
          go_upto_region 19 with fail
          rw [← hw5]
          clear hw5 B4
          go_wp2
          go_loopw [11, 59] (fun v i wr => ∃ (k : Nat) (q : Nat → Nat) (vs : List (Int × Int)), k ≤ ms.length ∧ i = .int .i64 k ∧ Hid (GrII wr w.heap.size v q vs) ∧ Hid (vs = croAll r ms ss k) ∧ Hid (Below w.heap.size w wr)) (fun _ i _ => ms.length - (intOf i).toNat)
          case atStart => exact ⟨0, _, [], Nat.zero_le _, rfl, HST, Lib.hid rfl, B5⟩
          case round =>
            obtain ⟨p, q, vs, hp, rfl, HG, HV, HBR⟩ := hrel
            by_cases hlt : p < ms.length
            · have HMP : Hid (mulP ms p = true) := Lib.hid (alls_at HVM.out p hlt)
              have HLT := Lib.hid hlt
              go_wp2
              go_loopw [11, 13] (fun v i wq => ∃ (j : Nat) (q : Nat → Nat) (vs : List (Int × Int)), (j + 1 ≤ ss.length ∨ j = 0) ∧ i = .int .i64 j ∧ Hid (GrII wq w.heap.size v q vs) ∧ Hid (vs = croAll r ms ss p ++ croRow r ms ss p j) ∧ Hid (Below w.heap.size w wq)) (fun _ i _ => ss.length - (intOf i).toNat)
              case atStart => exact ⟨0, q, vs, .inr rfl, rfl, HG, Lib.hid (by rw [HV.out]; simp [croRow]), HBR⟩
              case round =>
                obtain ⟨j, q2, vs2, hj2, rfl, HG2, HV2, HBQ⟩ := hrel
                have hadd : IntKind.i64.wrap ((j : Int) + 1) = (((j + 1 : Nat) : Nat) : Int) := by rw [show (((j + 1 : Nat) : Nat) : Int) = (j : Int) + 1 by omega]; exact IntWalk.i64_in _ (by have := HS.out; omega)
                obtain ⟨k, hk⟩ : ∃ k, k = j + 1 := ⟨_, rfl⟩
                rw [← hk] at hadd
                by_cases hlk : k < ss.length
                · have hjl : j < ss.length := by omega
                  obtain ⟨bm, om, rfl, -, hcm⟩ := (HF.out.below HBQ.out).at_ HLT.out
                  obtain ⟨bs, os, rfl, -, hc2⟩ := (HF'.out.below HBQ.out).at_ hlk
                  have hc1 := ((HF'.out.below HBQ.out).at_ (k := j) hjl)
                  obtain ⟨bs', os', hE, -, hc1⟩ := hc1
                  obtain ⟨rfl, rfl⟩ : bs = bs' ∧ os = os' := by simpa using hE
                  clear hE
                  have f1 := croV_sure HMP.out (fins_at HVF.out hjl)
                  have f2 := croV_sure HMP.out (fins_at HVF.out hlk)
                  have n1 := croV_num HMP.out (fins_at HVF.out hjl)
                  have n2 := croV_num HMP.out (fins_at HVF.out (show j + 1 < ss.length by omega))
                  have HCB : Hid (croB r ms ss p j = (geq32 (croV ms ss p j) r != geq32 (croV ms ss p k) r)) := Lib.hid (by rw [hk]; exact (croB_geq HRF.out n1 n2).symm)
                  have HROW : Hid (croRow r ms ss p k = croRow r ms ss p j ++ (if croB r ms ss p j then [((p : Int), (j : Int))] else [])) := Lib.hid (by rw [hk]; rfl)
                  have HLEN : Hid (vs2.length ≤ 2016) := Lib.hid (by rw [HV2.out]; exact cro_le HLT.out HM.out HS.out (by omega))
                  obtain ⟨tm, htm⟩ : ∃ z, floatOfInt .f32 (ms.getD p 0) = z := ⟨_, rfl⟩
                  rw [htm] at f1 f2
                  generalize croV ms ss p j = V1 at f1 HCB
                  generalize croV ms ss p k = V2 at f2 HCB
                  generalize ss.getD j 0 = x1 at hc1 f1
                  generalize ss.getD k 0 = x2 at hc2 f2
                  generalize ms.getD p 0 = mp at hcm htm
                  obtain ⟨f1a, f1b⟩ := f1
                  obtain ⟨f2a, f2b⟩ := f2
                  have HJK := Lib.hid hk
                  have hpl := HLT.out
                  clear hk n1 n2
                  have hdd : ∀ nn j, ∃ mm, (wr.drewN nn).drewN j = wr.drewN mm := fun nn j => ⟨nn + j, World.drewN_drewN ..⟩
                  go_upto_region 25 with fail
                  refine wp_region_inv3 (fun iq v => match iq with
                    | 0 => v = .slice (some ⟨bm, om, none⟩) ms.length cap
                    | 1 => v = .int .i64 p
                    | 2 => v = .pointer (some ⟨bm, om + p, none⟩)
                    | 3 => v = .int .i64 mp
                    | 4 => v = .float .f32 tm
                    | 5 => v = .slice (some ⟨bs, os, none⟩) ss.length cb
                    | 6 => v = .int .i64 j
                    | 7 => v = .pointer (some ⟨bs, os + j, none⟩)
                    | 8 => v = .float .f32 x1
                    | 9 => v = .float .f32 V1
                    | 10 => v = .float .f32 V1
                    | _ => False) (fun _ ww => ∃ nn, ww = wr.drewN nn) (by kernel_rfl) (by kernel_rfl) ⟨1, rfl⟩ ?hop ?hend
                  case hop =>
                    intro q o hq listed act w3 hI hnot hcl hall
                    obtain ⟨nq, rfl⟩ := hI.cls
                    rcases q with _ | _ | _ | _ | _ | _ | _ | _ | _ | _ | _ | q
                    · simp at hq; subst hq
                      have g1 : act.tmps[1]?.getD undef = .slice (some ⟨bm, om, none⟩) ms.length cap := hI.kept 1 (by kernel_rfl)
                      clear hI hall hnot hcl
                      refine .inl ⟨wanted_none rfl, ?_⟩
                      unfold Oper.wp
                      go_simp
                      all_goals exact ⟨_, rfl, rfl, ⟨_, rfl⟩⟩
                    · simp at hq; subst hq
                      have g12 : act.tmps[12]?.getD undef = .int .i64 p := hI.kept 12 (by kernel_rfl)
                      clear hI hall hnot hcl
                      refine .inl ⟨wanted_none rfl, ?_⟩
                      unfold Oper.wp
                      go_simp
                      all_goals exact ⟨_, rfl, rfl, ⟨_, rfl⟩⟩
                    · simp at hq; subst hq
                      have g69 : act.tmps[69]?.getD undef = .slice (some ⟨bm, om, none⟩) ms.length cap := hI.has 0 69 rfl (hall ⟨0, .data⟩ (by simp) rfl)
                      have g70 : act.tmps[70]?.getD undef = .int .i64 p := hI.has 1 70 rfl (hall ⟨1, .data⟩ (by simp) rfl)
                      clear hI hall hnot hcl
                      refine .inl ⟨wanted_none rfl, ?_⟩
                      unfold Oper.wp
                      go_simp
                      all_goals exact ⟨_, rfl, rfl, ⟨_, rfl⟩⟩
                    · simp at hq; subst hq
                      have g71 : act.tmps[71]?.getD undef = .pointer (some ⟨bm, om + p, none⟩) := hI.has 2 71 rfl (hall ⟨2, .data⟩ (by simp) rfl)
                      clear hI hall hnot hcl
                      refine .inl ⟨wanted_none rfl, ?_⟩
                      unfold Oper.wp
                      go_simp
                      all_goals exact ⟨_, rfl, rfl, ⟨_, rfl⟩⟩
                    · simp at hq; subst hq
                      have g72 : act.tmps[72]?.getD undef = .int .i64 mp := hI.has 3 72 rfl (hall ⟨3, .data⟩ (by simp) rfl)
                      clear hI hall hnot hcl
                      refine .inl ⟨wanted_none rfl, ?_⟩
                      unfold Oper.wp
                      go_simp
                      all_goals exact ⟨_, rfl, rfl, ⟨_, rfl⟩⟩
                    · simp at hq; subst hq
                      have g2 : act.tmps[2]?.getD undef = .slice (some ⟨bs, os, none⟩) ss.length cb := hI.kept 2 (by kernel_rfl)
                      clear hI hall hnot hcl
                      refine .inl ⟨wanted_none rfl, ?_⟩
                      unfold Oper.wp
                      go_simp
                      all_goals exact ⟨_, rfl, rfl, ⟨_, rfl⟩⟩
                    · simp at hq; subst hq
                      have g13 : act.tmps[13]?.getD undef = .int .i64 j := hI.kept 13 (by kernel_rfl)
                      clear hI hall hnot hcl
                      refine .inl ⟨wanted_none rfl, ?_⟩
                      unfold Oper.wp
                      go_simp
                      all_goals exact ⟨_, rfl, rfl, ⟨_, rfl⟩⟩
                    · simp at hq; subst hq
                      have g74 : act.tmps[74]?.getD undef = .slice (some ⟨bs, os, none⟩) ss.length cb := hI.has 5 74 rfl (hall ⟨5, .data⟩ (by simp) rfl)
                      have g75 : act.tmps[75]?.getD undef = .int .i64 j := hI.has 6 75 rfl (hall ⟨6, .data⟩ (by simp) rfl)
                      clear hI hall hnot hcl
                      refine .inl ⟨wanted_none rfl, ?_⟩
                      unfold Oper.wp
                      go_simp
                      all_goals exact ⟨_, rfl, rfl, ⟨_, rfl⟩⟩
                    · simp at hq; subst hq
                      have g76 : act.tmps[76]?.getD undef = .pointer (some ⟨bs, os + j, none⟩) := hI.has 7 76 rfl (hall ⟨7, .data⟩ (by simp) rfl)
                      clear hI hall hnot hcl
                      refine .inl ⟨wanted_none rfl, ?_⟩
                      unfold Oper.wp
                      go_simp
                      all_goals exact ⟨_, rfl, rfl, ⟨_, rfl⟩⟩
                    · simp at hq; subst hq
                      have g73 : act.tmps[73]?.getD undef = .float .f32 tm := hI.has 4 73 rfl (hall ⟨4, .data⟩ (by simp) rfl)
                      have g77 : act.tmps[77]?.getD undef = .float .f32 x1 := hI.has 8 77 rfl (hall ⟨8, .data⟩ (by simp) rfl)
                      clear hI hall hnot hcl
                      refine .inl ⟨wanted_none rfl, ?_⟩
                      unfold Oper.wp
                      go_simp
                      all_goals exact ⟨_, rfl, rfl, ⟨_, rfl⟩⟩
                    · simp at hq; subst hq
                      have g78 : act.tmps[78]?.getD undef = .float .f32 V1 := hI.has 9 78 rfl (hall ⟨9, .data⟩ (by simp) rfl)
                      clear hI hall hnot hcl
                      refine .inl ⟨wanted_none rfl, ?_⟩
                      unfold Oper.wp
                      go_simp
                      all_goals exact ⟨_, rfl, rfl, ⟨_, rfl⟩⟩
                    · simp at hq
                  case hend =>
                    intro listed act w3 hI hall
                    obtain ⟨nq, rfl⟩ := hI.cls
                    have g14 : act.tmps[14]?.getD undef = .float .f32 V1 := hI.has 10 14 rfl (hall 10 (by decide))
                    first | have g0 : act.tmps[0]?.getD undef = undef := hI.kept 0 (by kernel_rfl) | (have g0 := hI.kept 0 (by kernel_rfl); conv at g0 => rhs; whnf)
                    first | have g1 : act.tmps[1]?.getD undef = undef := hI.kept 1 (by kernel_rfl) | (have g1 := hI.kept 1 (by kernel_rfl); conv at g1 => rhs; whnf)
                    first | have g2 : act.tmps[2]?.getD undef = undef := hI.kept 2 (by kernel_rfl) | (have g2 := hI.kept 2 (by kernel_rfl); conv at g2 => rhs; whnf)
                    first | have g3 : act.tmps[3]?.getD undef = undef := hI.kept 3 (by kernel_rfl) | (have g3 := hI.kept 3 (by kernel_rfl); conv at g3 => rhs; whnf)
                    first | have g4 : act.tmps[4]?.getD undef = undef := hI.kept 4 (by kernel_rfl) | (have g4 := hI.kept 4 (by kernel_rfl); conv at g4 => rhs; whnf)
                    first | have g5 : act.tmps[5]?.getD undef = undef := hI.kept 5 (by kernel_rfl) | (have g5 := hI.kept 5 (by kernel_rfl); conv at g5 => rhs; whnf)
                    first | have g6 : act.tmps[6]?.getD undef = undef := hI.kept 6 (by kernel_rfl) | (have g6 := hI.kept 6 (by kernel_rfl); conv at g6 => rhs; whnf)
                    first | have g7 : act.tmps[7]?.getD undef = undef := hI.kept 7 (by kernel_rfl) | (have g7 := hI.kept 7 (by kernel_rfl); conv at g7 => rhs; whnf)
                    first | have g8 : act.tmps[8]?.getD undef = undef := hI.kept 8 (by kernel_rfl) | (have g8 := hI.kept 8 (by kernel_rfl); conv at g8 => rhs; whnf)
                    first | have g9 : act.tmps[9]?.getD undef = undef := hI.kept 9 (by kernel_rfl) | (have g9 := hI.kept 9 (by kernel_rfl); conv at g9 => rhs; whnf)
                    first | have g10 : act.tmps[10]?.getD undef = undef := hI.kept 10 (by kernel_rfl) | (have g10 := hI.kept 10 (by kernel_rfl); conv at g10 => rhs; whnf)
                    first | have g11 : act.tmps[11]?.getD undef = undef := hI.kept 11 (by kernel_rfl) | (have g11 := hI.kept 11 (by kernel_rfl); conv at g11 => rhs; whnf)
                    first | have g12 : act.tmps[12]?.getD undef = undef := hI.kept 12 (by kernel_rfl) | (have g12 := hI.kept 12 (by kernel_rfl); conv at g12 => rhs; whnf)
                    first | have g13 : act.tmps[13]?.getD undef = undef := hI.kept 13 (by kernel_rfl) | (have g13 := hI.kept 13 (by kernel_rfl); conv at g13 => rhs; whnf)
                    first | have g15 : act.tmps[15]?.getD undef = undef := hI.kept 15 (by kernel_rfl) | (have g15 := hI.kept 15 (by kernel_rfl); conv at g15 => rhs; whnf)
                    first | have g16 : act.tmps[16]?.getD undef = undef := hI.kept 16 (by kernel_rfl) | (have g16 := hI.kept 16 (by kernel_rfl); conv at g16 => rhs; whnf)
                    first | have g17 : act.tmps[17]?.getD undef = undef := hI.kept 17 (by kernel_rfl) | (have g17 := hI.kept 17 (by kernel_rfl); conv at g17 => rhs; whnf)
                    first | have g18 : act.tmps[18]?.getD undef = undef := hI.kept 18 (by kernel_rfl) | (have g18 := hI.kept 18 (by kernel_rfl); conv at g18 => rhs; whnf)
                    first | have g19 : act.tmps[19]?.getD undef = undef := hI.kept 19 (by kernel_rfl) | (have g19 := hI.kept 19 (by kernel_rfl); conv at g19 => rhs; whnf)
                    first | have g20 : act.tmps[20]?.getD undef = undef := hI.kept 20 (by kernel_rfl) | (have g20 := hI.kept 20 (by kernel_rfl); conv at g20 => rhs; whnf)
                    first | have g21 : act.tmps[21]?.getD undef = undef := hI.kept 21 (by kernel_rfl) | (have g21 := hI.kept 21 (by kernel_rfl); conv at g21 => rhs; whnf)
                    first | have g22 : act.tmps[22]?.getD undef = undef := hI.kept 22 (by kernel_rfl) | (have g22 := hI.kept 22 (by kernel_rfl); conv at g22 => rhs; whnf)
                    first | have g23 : act.tmps[23]?.getD undef = undef := hI.kept 23 (by kernel_rfl) | (have g23 := hI.kept 23 (by kernel_rfl); conv at g23 => rhs; whnf)
                    first | have g24 : act.tmps[24]?.getD undef = undef := hI.kept 24 (by kernel_rfl) | (have g24 := hI.kept 24 (by kernel_rfl); conv at g24 => rhs; whnf)
                    first | have g25 : act.tmps[25]?.getD undef = undef := hI.kept 25 (by kernel_rfl) | (have g25 := hI.kept 25 (by kernel_rfl); conv at g25 => rhs; whnf)
                    first | have g26 : act.tmps[26]?.getD undef = undef := hI.kept 26 (by kernel_rfl) | (have g26 := hI.kept 26 (by kernel_rfl); conv at g26 => rhs; whnf)
                    first | have g27 : act.tmps[27]?.getD undef = undef := hI.kept 27 (by kernel_rfl) | (have g27 := hI.kept 27 (by kernel_rfl); conv at g27 => rhs; whnf)
                    first | have g28 : act.tmps[28]?.getD undef = undef := hI.kept 28 (by kernel_rfl) | (have g28 := hI.kept 28 (by kernel_rfl); conv at g28 => rhs; whnf)
                    first | have g29 : act.tmps[29]?.getD undef = undef := hI.kept 29 (by kernel_rfl) | (have g29 := hI.kept 29 (by kernel_rfl); conv at g29 => rhs; whnf)
                    first | have g30 : act.tmps[30]?.getD undef = undef := hI.kept 30 (by kernel_rfl) | (have g30 := hI.kept 30 (by kernel_rfl); conv at g30 => rhs; whnf)
                    first | have g31 : act.tmps[31]?.getD undef = undef := hI.kept 31 (by kernel_rfl) | (have g31 := hI.kept 31 (by kernel_rfl); conv at g31 => rhs; whnf)
                    first | have g32 : act.tmps[32]?.getD undef = undef := hI.kept 32 (by kernel_rfl) | (have g32 := hI.kept 32 (by kernel_rfl); conv at g32 => rhs; whnf)
                    first | have g33 : act.tmps[33]?.getD undef = undef := hI.kept 33 (by kernel_rfl) | (have g33 := hI.kept 33 (by kernel_rfl); conv at g33 => rhs; whnf)
                    first | have g34 : act.tmps[34]?.getD undef = undef := hI.kept 34 (by kernel_rfl) | (have g34 := hI.kept 34 (by kernel_rfl); conv at g34 => rhs; whnf)
                    first | have g35 : act.tmps[35]?.getD undef = undef := hI.kept 35 (by kernel_rfl) | (have g35 := hI.kept 35 (by kernel_rfl); conv at g35 => rhs; whnf)
                    first | have g36 : act.tmps[36]?.getD undef = undef := hI.kept 36 (by kernel_rfl) | (have g36 := hI.kept 36 (by kernel_rfl); conv at g36 => rhs; whnf)
                    first | have g37 : act.tmps[37]?.getD undef = undef := hI.kept 37 (by kernel_rfl) | (have g37 := hI.kept 37 (by kernel_rfl); conv at g37 => rhs; whnf)
                    first | have g38 : act.tmps[38]?.getD undef = undef := hI.kept 38 (by kernel_rfl) | (have g38 := hI.kept 38 (by kernel_rfl); conv at g38 => rhs; whnf)
                    first | have g39 : act.tmps[39]?.getD undef = undef := hI.kept 39 (by kernel_rfl) | (have g39 := hI.kept 39 (by kernel_rfl); conv at g39 => rhs; whnf)
                    first | have g40 : act.tmps[40]?.getD undef = undef := hI.kept 40 (by kernel_rfl) | (have g40 := hI.kept 40 (by kernel_rfl); conv at g40 => rhs; whnf)
                    first | have g41 : act.tmps[41]?.getD undef = undef := hI.kept 41 (by kernel_rfl) | (have g41 := hI.kept 41 (by kernel_rfl); conv at g41 => rhs; whnf)
                    first | have g42 : act.tmps[42]?.getD undef = undef := hI.kept 42 (by kernel_rfl) | (have g42 := hI.kept 42 (by kernel_rfl); conv at g42 => rhs; whnf)
                    first | have g43 : act.tmps[43]?.getD undef = undef := hI.kept 43 (by kernel_rfl) | (have g43 := hI.kept 43 (by kernel_rfl); conv at g43 => rhs; whnf)
                    first | have g44 : act.tmps[44]?.getD undef = undef := hI.kept 44 (by kernel_rfl) | (have g44 := hI.kept 44 (by kernel_rfl); conv at g44 => rhs; whnf)
                    first | have g45 : act.tmps[45]?.getD undef = undef := hI.kept 45 (by kernel_rfl) | (have g45 := hI.kept 45 (by kernel_rfl); conv at g45 => rhs; whnf)
                    first | have g46 : act.tmps[46]?.getD undef = undef := hI.kept 46 (by kernel_rfl) | (have g46 := hI.kept 46 (by kernel_rfl); conv at g46 => rhs; whnf)
                    first | have g47 : act.tmps[47]?.getD undef = undef := hI.kept 47 (by kernel_rfl) | (have g47 := hI.kept 47 (by kernel_rfl); conv at g47 => rhs; whnf)
                    first | have g48 : act.tmps[48]?.getD undef = undef := hI.kept 48 (by kernel_rfl) | (have g48 := hI.kept 48 (by kernel_rfl); conv at g48 => rhs; whnf)
                    first | have g49 : act.tmps[49]?.getD undef = undef := hI.kept 49 (by kernel_rfl) | (have g49 := hI.kept 49 (by kernel_rfl); conv at g49 => rhs; whnf)
                    first | have g50 : act.tmps[50]?.getD undef = undef := hI.kept 50 (by kernel_rfl) | (have g50 := hI.kept 50 (by kernel_rfl); conv at g50 => rhs; whnf)
                    first | have g51 : act.tmps[51]?.getD undef = undef := hI.kept 51 (by kernel_rfl) | (have g51 := hI.kept 51 (by kernel_rfl); conv at g51 => rhs; whnf)
                    first | have g52 : act.tmps[52]?.getD undef = undef := hI.kept 52 (by kernel_rfl) | (have g52 := hI.kept 52 (by kernel_rfl); conv at g52 => rhs; whnf)
                    first | have g53 : act.tmps[53]?.getD undef = undef := hI.kept 53 (by kernel_rfl) | (have g53 := hI.kept 53 (by kernel_rfl); conv at g53 => rhs; whnf)
                    first | have g54 : act.tmps[54]?.getD undef = undef := hI.kept 54 (by kernel_rfl) | (have g54 := hI.kept 54 (by kernel_rfl); conv at g54 => rhs; whnf)
                    first | have g55 : act.tmps[55]?.getD undef = undef := hI.kept 55 (by kernel_rfl) | (have g55 := hI.kept 55 (by kernel_rfl); conv at g55 => rhs; whnf)
                    first | have g56 : act.tmps[56]?.getD undef = undef := hI.kept 56 (by kernel_rfl) | (have g56 := hI.kept 56 (by kernel_rfl); conv at g56 => rhs; whnf)
                    first | have g57 : act.tmps[57]?.getD undef = undef := hI.kept 57 (by kernel_rfl) | (have g57 := hI.kept 57 (by kernel_rfl); conv at g57 => rhs; whnf)
                    first | have g58 : act.tmps[58]?.getD undef = undef := hI.kept 58 (by kernel_rfl) | (have g58 := hI.kept 58 (by kernel_rfl); conv at g58 => rhs; whnf)
                    first | have g59 : act.tmps[59]?.getD undef = undef := hI.kept 59 (by kernel_rfl) | (have g59 := hI.kept 59 (by kernel_rfl); conv at g59 => rhs; whnf)
                    first | have g60 : act.tmps[60]?.getD undef = undef := hI.kept 60 (by kernel_rfl) | (have g60 := hI.kept 60 (by kernel_rfl); conv at g60 => rhs; whnf)
                    first | have g61 : act.tmps[61]?.getD undef = undef := hI.kept 61 (by kernel_rfl) | (have g61 := hI.kept 61 (by kernel_rfl); conv at g61 => rhs; whnf)
                    first | have g62 : act.tmps[62]?.getD undef = undef := hI.kept 62 (by kernel_rfl) | (have g62 := hI.kept 62 (by kernel_rfl); conv at g62 => rhs; whnf)
                    first | have g63 : act.tmps[63]?.getD undef = undef := hI.kept 63 (by kernel_rfl) | (have g63 := hI.kept 63 (by kernel_rfl); conv at g63 => rhs; whnf)
                    first | have g64 : act.tmps[64]?.getD undef = undef := hI.kept 64 (by kernel_rfl) | (have g64 := hI.kept 64 (by kernel_rfl); conv at g64 => rhs; whnf)
                    first | have g65 : act.tmps[65]?.getD undef = undef := hI.kept 65 (by kernel_rfl) | (have g65 := hI.kept 65 (by kernel_rfl); conv at g65 => rhs; whnf)
                    first | have g66 : act.tmps[66]?.getD undef = undef := hI.kept 66 (by kernel_rfl) | (have g66 := hI.kept 66 (by kernel_rfl); conv at g66 => rhs; whnf)
                    first | have g67 : act.tmps[67]?.getD undef = undef := hI.kept 67 (by kernel_rfl) | (have g67 := hI.kept 67 (by kernel_rfl); conv at g67 => rhs; whnf)
                    first | have g68 : act.tmps[68]?.getD undef = undef := hI.kept 68 (by kernel_rfl) | (have g68 := hI.kept 68 (by kernel_rfl); conv at g68 => rhs; whnf)
                    first | have g79 : act.tmps[79]?.getD undef = undef := hI.kept 79 (by kernel_rfl) | (have g79 := hI.kept 79 (by kernel_rfl); conv at g79 => rhs; whnf)
                    first | have g80 : act.tmps[80]?.getD undef = undef := hI.kept 80 (by kernel_rfl) | (have g80 := hI.kept 80 (by kernel_rfl); conv at g80 => rhs; whnf)
                    first | have g81 : act.tmps[81]?.getD undef = undef := hI.kept 81 (by kernel_rfl) | (have g81 := hI.kept 81 (by kernel_rfl); conv at g81 => rhs; whnf)
                    first | have g82 : act.tmps[82]?.getD undef = undef := hI.kept 82 (by kernel_rfl) | (have g82 := hI.kept 82 (by kernel_rfl); conv at g82 => rhs; whnf)
                    first | have g83 : act.tmps[83]?.getD undef = undef := hI.kept 83 (by kernel_rfl) | (have g83 := hI.kept 83 (by kernel_rfl); conv at g83 => rhs; whnf)
                    first | have g84 : act.tmps[84]?.getD undef = undef := hI.kept 84 (by kernel_rfl) | (have g84 := hI.kept 84 (by kernel_rfl); conv at g84 => rhs; whnf)
                    first | have g85 : act.tmps[85]?.getD undef = undef := hI.kept 85 (by kernel_rfl) | (have g85 := hI.kept 85 (by kernel_rfl); conv at g85 => rhs; whnf)
                    first | have g86 : act.tmps[86]?.getD undef = undef := hI.kept 86 (by kernel_rfl) | (have g86 := hI.kept 86 (by kernel_rfl); conv at g86 => rhs; whnf)
                    first | have g87 : act.tmps[87]?.getD undef = undef := hI.kept 87 (by kernel_rfl) | (have g87 := hI.kept 87 (by kernel_rfl); conv at g87 => rhs; whnf)
                    first | have g88 : act.tmps[88]?.getD undef = undef := hI.kept 88 (by kernel_rfl) | (have g88 := hI.kept 88 (by kernel_rfl); conv at g88 => rhs; whnf)
                    first | have g89 : act.tmps[89]?.getD undef = undef := hI.kept 89 (by kernel_rfl) | (have g89 := hI.kept 89 (by kernel_rfl); conv at g89 => rhs; whnf)
                    first | have g90 : act.tmps[90]?.getD undef = undef := hI.kept 90 (by kernel_rfl) | (have g90 := hI.kept 90 (by kernel_rfl); conv at g90 => rhs; whnf)
                    first | have g91 : act.tmps[91]?.getD undef = undef := hI.kept 91 (by kernel_rfl) | (have g91 := hI.kept 91 (by kernel_rfl); conv at g91 => rhs; whnf)
                    first | have g92 : act.tmps[92]?.getD undef = undef := hI.kept 92 (by kernel_rfl) | (have g92 := hI.kept 92 (by kernel_rfl); conv at g92 => rhs; whnf)
                    first | have g93 : act.tmps[93]?.getD undef = undef := hI.kept 93 (by kernel_rfl) | (have g93 := hI.kept 93 (by kernel_rfl); conv at g93 => rhs; whnf)
                    first | have g94 : act.tmps[94]?.getD undef = undef := hI.kept 94 (by kernel_rfl) | (have g94 := hI.kept 94 (by kernel_rfl); conv at g94 => rhs; whnf)
                    first | have g95 : act.tmps[95]?.getD undef = undef := hI.kept 95 (by kernel_rfl) | (have g95 := hI.kept 95 (by kernel_rfl); conv at g95 => rhs; whnf)
                    first | have g96 : act.tmps[96]?.getD undef = undef := hI.kept 96 (by kernel_rfl) | (have g96 := hI.kept 96 (by kernel_rfl); conv at g96 => rhs; whnf)
                    first | have g97 : act.tmps[97]?.getD undef = undef := hI.kept 97 (by kernel_rfl) | (have g97 := hI.kept 97 (by kernel_rfl); conv at g97 => rhs; whnf)
                    first | have g98 : act.tmps[98]?.getD undef = undef := hI.kept 98 (by kernel_rfl) | (have g98 := hI.kept 98 (by kernel_rfl); conv at g98 => rhs; whnf)
                    first | have g99 : act.tmps[99]?.getD undef = undef := hI.kept 99 (by kernel_rfl) | (have g99 := hI.kept 99 (by kernel_rfl); conv at g99 => rhs; whnf)
                    first | have g100 : act.tmps[100]?.getD undef = undef := hI.kept 100 (by kernel_rfl) | (have g100 := hI.kept 100 (by kernel_rfl); conv at g100 => rhs; whnf)
                    first | have g101 : act.tmps[101]?.getD undef = undef := hI.kept 101 (by kernel_rfl) | (have g101 := hI.kept 101 (by kernel_rfl); conv at g101 => rhs; whnf)
                    first | have g102 : act.tmps[102]?.getD undef = undef := hI.kept 102 (by kernel_rfl) | (have g102 := hI.kept 102 (by kernel_rfl); conv at g102 => rhs; whnf)
                    first | have g103 : act.tmps[103]?.getD undef = undef := hI.kept 103 (by kernel_rfl) | (have g103 := hI.kept 103 (by kernel_rfl); conv at g103 => rhs; whnf)
                    first | have g104 : act.tmps[104]?.getD undef = undef := hI.kept 104 (by kernel_rfl) | (have g104 := hI.kept 104 (by kernel_rfl); conv at g104 => rhs; whnf)
                    have hsz : act.tmps.size = 105 := hI.size.trans (by kernel_rfl)
                    have hd := hI.defers
                    clear hI hall hdd
                    obtain ⟨tt, dd⟩ := act
                    simp only at g0 g1 g2 g3 g4 g5 g6 g7 g8 g9 g10 g11 g12 g13 g14 g15 g16 g17 g18 g19 g20 g21 g22 g23 g24 g25 g26 g27 g28 g29 g30 g31 g32 g33 g34 g35 g36 g37 g38 g39 g40 g41 g42 g43 g44 g45 g46 g47 g48 g49 g50 g51 g52 g53 g54 g55 g56 g57 g58 g59 g60 g61 g62 g63 g64 g65 g66 g67 g68 g79 g80 g81 g82 g83 g84 g85 g86 g87 g88 g89 g90 g91 g92 g93 g94 g95 g96 g97 g98 g99 g100 g101 g102 g103 g104 hsz hd
                    subst hd
                    have hl : tt = #[tt[0]?.getD undef, tt[1]?.getD undef, tt[2]?.getD undef, tt[3]?.getD undef, tt[4]?.getD undef, tt[5]?.getD undef, tt[6]?.getD undef, tt[7]?.getD undef, tt[8]?.getD undef, tt[9]?.getD undef, tt[10]?.getD undef, tt[11]?.getD undef, tt[12]?.getD undef, tt[13]?.getD undef, tt[14]?.getD undef, tt[15]?.getD undef, tt[16]?.getD undef, tt[17]?.getD undef, tt[18]?.getD undef, tt[19]?.getD undef, tt[20]?.getD undef, tt[21]?.getD undef, tt[22]?.getD undef, tt[23]?.getD undef, tt[24]?.getD undef, tt[25]?.getD undef, tt[26]?.getD undef, tt[27]?.getD undef, tt[28]?.getD undef, tt[29]?.getD undef, tt[30]?.getD undef, tt[31]?.getD undef, tt[32]?.getD undef, tt[33]?.getD undef, tt[34]?.getD undef, tt[35]?.getD undef, tt[36]?.getD undef, tt[37]?.getD undef, tt[38]?.getD undef, tt[39]?.getD undef, tt[40]?.getD undef, tt[41]?.getD undef, tt[42]?.getD undef, tt[43]?.getD undef, tt[44]?.getD undef, tt[45]?.getD undef, tt[46]?.getD undef, tt[47]?.getD undef, tt[48]?.getD undef, tt[49]?.getD undef, tt[50]?.getD undef, tt[51]?.getD undef, tt[52]?.getD undef, tt[53]?.getD undef, tt[54]?.getD undef, tt[55]?.getD undef, tt[56]?.getD undef, tt[57]?.getD undef, tt[58]?.getD undef, tt[59]?.getD undef, tt[60]?.getD undef, tt[61]?.getD undef, tt[62]?.getD undef, tt[63]?.getD undef, tt[64]?.getD undef, tt[65]?.getD undef, tt[66]?.getD undef, tt[67]?.getD undef, tt[68]?.getD undef, tt[69]?.getD undef, tt[70]?.getD undef, tt[71]?.getD undef, tt[72]?.getD undef, tt[73]?.getD undef, tt[74]?.getD undef, tt[75]?.getD undef, tt[76]?.getD undef, tt[77]?.getD undef, tt[78]?.getD undef, tt[79]?.getD undef, tt[80]?.getD undef, tt[81]?.getD undef, tt[82]?.getD undef, tt[83]?.getD undef, tt[84]?.getD undef, tt[85]?.getD undef, tt[86]?.getD undef, tt[87]?.getD undef, tt[88]?.getD undef, tt[89]?.getD undef, tt[90]?.getD undef, tt[91]?.getD undef, tt[92]?.getD undef, tt[93]?.getD undef, tt[94]?.getD undef, tt[95]?.getD undef, tt[96]?.getD undef, tt[97]?.getD undef, tt[98]?.getD undef, tt[99]?.getD undef, tt[100]?.getD undef, tt[101]?.getD undef, tt[102]?.getD undef, tt[103]?.getD undef, tt[104]?.getD undef] := (arr_lit hsz).trans rfl
                    rw [g0, g1, g2, g3, g4, g5, g6, g7, g8, g9, g10, g11, g12, g13, g14, g15, g16, g17, g18, g19, g20, g21, g22, g23, g24, g25, g26, g27, g28, g29, g30, g31, g32, g33, g34, g35, g36, g37, g38, g39, g40, g41, g42, g43, g44, g45, g46, g47, g48, g49, g50, g51, g52, g53, g54, g55, g56, g57, g58, g59, g60, g61, g62, g63, g64, g65, g66, g67, g68, g79, g80, g81, g82, g83, g84, g85, g86, g87, g88, g89, g90, g91, g92, g93, g94, g95, g96, g97, g98, g99, g100, g101, g102, g103, g104] at hl
                    clear g0 g1 g2 g3 g4 g5 g6 g7 g8 g9 g10 g11 g12 g13 g14 g15 g16 g17 g18 g19 g20 g21 g22 g23 g24 g25 g26 g27 g28 g29 g30 g31 g32 g33 g34 g35 g36 g37 g38 g39 g40 g41 g42 g43 g44 g45 g46 g47 g48 g49 g50 g51 g52 g53 g54 g55 g56 g57 g58 g59 g60 g61 g62 g63 g64 g65 g66 g67 g68 g79 g80 g81 g82 g83 g84 g85 g86 g87 g88 g89 g90 g91 g92 g93 g94 g95 g96 g97 g98 g99 g100 g101 g102 g103 g104 hsz
                    generalize tt[69]?.getD undef = y69 at hl
                    generalize tt[70]?.getD undef = y70 at hl
                    generalize tt[71]?.getD undef = y71 at hl
                    generalize tt[72]?.getD undef = y72 at hl
                    generalize tt[73]?.getD undef = y73 at hl
                    generalize tt[74]?.getD undef = y74 at hl
                    generalize tt[75]?.getD undef = y75 at hl
                    generalize tt[76]?.getD undef = y76 at hl
                    generalize tt[77]?.getD undef = y77 at hl
                    generalize tt[78]?.getD undef = y78 at hl
                    subst hl
                    obtain ⟨w6, hw6⟩ : ∃ z, z = wr.drewN nq := ⟨_, rfl⟩
                    have HG6 : Hid (GrII w6 w.heap.size _ q2 vs2) := Lib.hid (by rw [hw6]; exact HG2.out)
                    have HB6 : Hid (Below w.heap.size w w6) := Lib.hid (by rw [hw6]; exact below_draws HBQ.out _)
                    have hcm : w6.cell? ⟨bm, om + p, none⟩ = some (.int .i64 mp) := by rw [hw6]; exact hcm
                    have hc1 : w6.cell? ⟨bs, os + j, none⟩ = some (.float .f32 x1) := by rw [hw6]; exact hc1
                    have hc2 : w6.cell? ⟨bs, os + k, none⟩ = some (.float .f32 x2) := by rw [hw6]; exact hc2
                    have hdd : ∀ nn j, ∃ mm, (w6.drewN nn).drewN j = w6.drewN mm := fun nn j => ⟨nn + j, World.drewN_drewN ..⟩
                    rw [← hw6]
                    clear hw6
                    go_upto_region 26 with fail
                    refine wp_region_inv3 (fun iq v => match iq with
                      | 0 => v = .slice (some ⟨bm, om, none⟩) ms.length cap
                      | 1 => v = .int .i64 p
                      | 2 => v = .pointer (some ⟨bm, om + p, none⟩)
                      | 3 => v = .int .i64 mp
                      | 4 => v = .float .f32 tm
                      | 5 => v = .slice (some ⟨bs, os, none⟩) ss.length cb
                      | 6 => v = .int .i64 j
                      | 7 => v = .int .i64 k
                      | 8 => v = .pointer (some ⟨bs, os + k, none⟩)
                      | 9 => v = .float .f32 x2
                      | 10 => v = .float .f32 V2
                      | 11 => v = .float .f32 V2
                      | _ => False) (fun _ ww => ∃ nn, ww = w6.drewN nn) (by kernel_rfl) (by kernel_rfl) ⟨1, rfl⟩ ?hop ?hend
                    case hop =>
                      intro q o hq listed act w3 hI hnot hcl hall
                      obtain ⟨nq, rfl⟩ := hI.cls
                      rcases q with _ | _ | _ | _ | _ | _ | _ | _ | _ | _ | _ | _ | q
                      · simp at hq; subst hq
                        have g1 : act.tmps[1]?.getD undef = .slice (some ⟨bm, om, none⟩) ms.length cap := hI.kept 1 (by kernel_rfl)
                        clear hI hall hnot hcl
                        refine .inl ⟨wanted_none rfl, ?_⟩
                        unfold Oper.wp
                        go_simp
                        all_goals exact ⟨_, rfl, rfl, ⟨_, rfl⟩⟩
                      · simp at hq; subst hq
                        have g12 : act.tmps[12]?.getD undef = .int .i64 p := hI.kept 12 (by kernel_rfl)
                        clear hI hall hnot hcl
                        refine .inl ⟨wanted_none rfl, ?_⟩
                        unfold Oper.wp
                        go_simp
                        all_goals exact ⟨_, rfl, rfl, ⟨_, rfl⟩⟩
                      · simp at hq; subst hq
                        have g79 : act.tmps[79]?.getD undef = .slice (some ⟨bm, om, none⟩) ms.length cap := hI.has 0 79 rfl (hall ⟨0, .data⟩ (by simp) rfl)
                        have g80 : act.tmps[80]?.getD undef = .int .i64 p := hI.has 1 80 rfl (hall ⟨1, .data⟩ (by simp) rfl)
                        clear hI hall hnot hcl
                        refine .inl ⟨wanted_none rfl, ?_⟩
                        unfold Oper.wp
                        go_simp
                        all_goals exact ⟨_, rfl, rfl, ⟨_, rfl⟩⟩
                      · simp at hq; subst hq
                        have g81 : act.tmps[81]?.getD undef = .pointer (some ⟨bm, om + p, none⟩) := hI.has 2 81 rfl (hall ⟨2, .data⟩ (by simp) rfl)
                        clear hI hall hnot hcl
                        refine .inl ⟨wanted_none rfl, ?_⟩
                        unfold Oper.wp
                        go_simp
                        all_goals exact ⟨_, rfl, rfl, ⟨_, rfl⟩⟩
                      · simp at hq; subst hq
                        have g82 : act.tmps[82]?.getD undef = .int .i64 mp := hI.has 3 82 rfl (hall ⟨3, .data⟩ (by simp) rfl)
                        clear hI hall hnot hcl
                        refine .inl ⟨wanted_none rfl, ?_⟩
                        unfold Oper.wp
                        go_simp
                        all_goals exact ⟨_, rfl, rfl, ⟨_, rfl⟩⟩
                      · simp at hq; subst hq
                        have g2 : act.tmps[2]?.getD undef = .slice (some ⟨bs, os, none⟩) ss.length cb := hI.kept 2 (by kernel_rfl)
                        clear hI hall hnot hcl
                        refine .inl ⟨wanted_none rfl, ?_⟩
                        unfold Oper.wp
                        go_simp
                        all_goals exact ⟨_, rfl, rfl, ⟨_, rfl⟩⟩
                      · simp at hq; subst hq
                        have g13 : act.tmps[13]?.getD undef = .int .i64 j := hI.kept 13 (by kernel_rfl)
                        clear hI hall hnot hcl
                        refine .inl ⟨wanted_none rfl, ?_⟩
                        unfold Oper.wp
                        go_simp
                        all_goals exact ⟨_, rfl, rfl, ⟨_, rfl⟩⟩
                      · simp at hq; subst hq
                        have g85 : act.tmps[85]?.getD undef = .int .i64 j := hI.has 6 85 rfl (hall ⟨6, .data⟩ (by simp) rfl)
                        clear hI hall hnot hcl
                        refine .inl ⟨wanted_none rfl, ?_⟩
                        unfold Oper.wp
                        go_simp
                        all_goals exact ⟨_, rfl, rfl, ⟨_, rfl⟩⟩
                      · simp at hq; subst hq
                        have g84 : act.tmps[84]?.getD undef = .slice (some ⟨bs, os, none⟩) ss.length cb := hI.has 5 84 rfl (hall ⟨5, .data⟩ (by simp) rfl)
                        have g86 : act.tmps[86]?.getD undef = .int .i64 k := hI.has 7 86 rfl (hall ⟨7, .data⟩ (by simp) rfl)
                        clear hI hall hnot hcl
                        refine .inl ⟨wanted_none rfl, ?_⟩
                        unfold Oper.wp
                        go_simp
                        all_goals exact ⟨_, rfl, rfl, ⟨_, rfl⟩⟩
                      · simp at hq; subst hq
                        have g87 : act.tmps[87]?.getD undef = .pointer (some ⟨bs, os + k, none⟩) := hI.has 8 87 rfl (hall ⟨8, .data⟩ (by simp) rfl)
                        clear hI hall hnot hcl
                        refine .inl ⟨wanted_none rfl, ?_⟩
                        unfold Oper.wp
                        go_simp
                        all_goals exact ⟨_, rfl, rfl, ⟨_, rfl⟩⟩
                      · simp at hq; subst hq
                        have g83 : act.tmps[83]?.getD undef = .float .f32 tm := hI.has 4 83 rfl (hall ⟨4, .data⟩ (by simp) rfl)
                        have g88 : act.tmps[88]?.getD undef = .float .f32 x2 := hI.has 9 88 rfl (hall ⟨9, .data⟩ (by simp) rfl)
                        clear hI hall hnot hcl
                        refine .inl ⟨wanted_none rfl, ?_⟩
                        unfold Oper.wp
                        go_simp
                        all_goals exact ⟨_, rfl, rfl, ⟨_, rfl⟩⟩
                      · simp at hq; subst hq
                        have g89 : act.tmps[89]?.getD undef = .float .f32 V2 := hI.has 10 89 rfl (hall ⟨10, .data⟩ (by simp) rfl)
                        clear hI hall hnot hcl
                        refine .inl ⟨wanted_none rfl, ?_⟩
                        unfold Oper.wp
                        go_simp
                        all_goals exact ⟨_, rfl, rfl, ⟨_, rfl⟩⟩
                      · simp at hq
                    case hend =>
                      intro listed act w3 hI hall
                      obtain ⟨nq, rfl⟩ := hI.cls
                      have g15 : act.tmps[15]?.getD undef = .float .f32 V2 := hI.has 11 15 rfl (hall 11 (by decide))
                      first | have g0 : act.tmps[0]?.getD undef = undef := hI.kept 0 (by kernel_rfl) | (have g0 := hI.kept 0 (by kernel_rfl); conv at g0 => rhs; whnf)
                      first | have g1 : act.tmps[1]?.getD undef = undef := hI.kept 1 (by kernel_rfl) | (have g1 := hI.kept 1 (by kernel_rfl); conv at g1 => rhs; whnf)
                      first | have g2 : act.tmps[2]?.getD undef = undef := hI.kept 2 (by kernel_rfl) | (have g2 := hI.kept 2 (by kernel_rfl); conv at g2 => rhs; whnf)
                      first | have g3 : act.tmps[3]?.getD undef = undef := hI.kept 3 (by kernel_rfl) | (have g3 := hI.kept 3 (by kernel_rfl); conv at g3 => rhs; whnf)
                      first | have g4 : act.tmps[4]?.getD undef = undef := hI.kept 4 (by kernel_rfl) | (have g4 := hI.kept 4 (by kernel_rfl); conv at g4 => rhs; whnf)
                      first | have g5 : act.tmps[5]?.getD undef = undef := hI.kept 5 (by kernel_rfl) | (have g5 := hI.kept 5 (by kernel_rfl); conv at g5 => rhs; whnf)
                      first | have g6 : act.tmps[6]?.getD undef = undef := hI.kept 6 (by kernel_rfl) | (have g6 := hI.kept 6 (by kernel_rfl); conv at g6 => rhs; whnf)
                      first | have g7 : act.tmps[7]?.getD undef = undef := hI.kept 7 (by kernel_rfl) | (have g7 := hI.kept 7 (by kernel_rfl); conv at g7 => rhs; whnf)
                      first | have g8 : act.tmps[8]?.getD undef = undef := hI.kept 8 (by kernel_rfl) | (have g8 := hI.kept 8 (by kernel_rfl); conv at g8 => rhs; whnf)
                      first | have g9 : act.tmps[9]?.getD undef = undef := hI.kept 9 (by kernel_rfl) | (have g9 := hI.kept 9 (by kernel_rfl); conv at g9 => rhs; whnf)
                      first | have g10 : act.tmps[10]?.getD undef = undef := hI.kept 10 (by kernel_rfl) | (have g10 := hI.kept 10 (by kernel_rfl); conv at g10 => rhs; whnf)
                      first | have g11 : act.tmps[11]?.getD undef = undef := hI.kept 11 (by kernel_rfl) | (have g11 := hI.kept 11 (by kernel_rfl); conv at g11 => rhs; whnf)
                      first | have g12 : act.tmps[12]?.getD undef = undef := hI.kept 12 (by kernel_rfl) | (have g12 := hI.kept 12 (by kernel_rfl); conv at g12 => rhs; whnf)
                      first | have g13 : act.tmps[13]?.getD undef = undef := hI.kept 13 (by kernel_rfl) | (have g13 := hI.kept 13 (by kernel_rfl); conv at g13 => rhs; whnf)
                      first | have g14 : act.tmps[14]?.getD undef = undef := hI.kept 14 (by kernel_rfl) | (have g14 := hI.kept 14 (by kernel_rfl); conv at g14 => rhs; whnf)
                      first | have g16 : act.tmps[16]?.getD undef = undef := hI.kept 16 (by kernel_rfl) | (have g16 := hI.kept 16 (by kernel_rfl); conv at g16 => rhs; whnf)
                      first | have g17 : act.tmps[17]?.getD undef = undef := hI.kept 17 (by kernel_rfl) | (have g17 := hI.kept 17 (by kernel_rfl); conv at g17 => rhs; whnf)
                      first | have g18 : act.tmps[18]?.getD undef = undef := hI.kept 18 (by kernel_rfl) | (have g18 := hI.kept 18 (by kernel_rfl); conv at g18 => rhs; whnf)
                      first | have g19 : act.tmps[19]?.getD undef = undef := hI.kept 19 (by kernel_rfl) | (have g19 := hI.kept 19 (by kernel_rfl); conv at g19 => rhs; whnf)
                      first | have g20 : act.tmps[20]?.getD undef = undef := hI.kept 20 (by kernel_rfl) | (have g20 := hI.kept 20 (by kernel_rfl); conv at g20 => rhs; whnf)
                      first | have g21 : act.tmps[21]?.getD undef = undef := hI.kept 21 (by kernel_rfl) | (have g21 := hI.kept 21 (by kernel_rfl); conv at g21 => rhs; whnf)
                      first | have g22 : act.tmps[22]?.getD undef = undef := hI.kept 22 (by kernel_rfl) | (have g22 := hI.kept 22 (by kernel_rfl); conv at g22 => rhs; whnf)
                      first | have g23 : act.tmps[23]?.getD undef = undef := hI.kept 23 (by kernel_rfl) | (have g23 := hI.kept 23 (by kernel_rfl); conv at g23 => rhs; whnf)
                      first | have g24 : act.tmps[24]?.getD undef = undef := hI.kept 24 (by kernel_rfl) | (have g24 := hI.kept 24 (by kernel_rfl); conv at g24 => rhs; whnf)
                      first | have g25 : act.tmps[25]?.getD undef = undef := hI.kept 25 (by kernel_rfl) | (have g25 := hI.kept 25 (by kernel_rfl); conv at g25 => rhs; whnf)
                      first | have g26 : act.tmps[26]?.getD undef = undef := hI.kept 26 (by kernel_rfl) | (have g26 := hI.kept 26 (by kernel_rfl); conv at g26 => rhs; whnf)
                      first | have g27 : act.tmps[27]?.getD undef = undef := hI.kept 27 (by kernel_rfl) | (have g27 := hI.kept 27 (by kernel_rfl); conv at g27 => rhs; whnf)
                      first | have g28 : act.tmps[28]?.getD undef = undef := hI.kept 28 (by kernel_rfl) | (have g28 := hI.kept 28 (by kernel_rfl); conv at g28 => rhs; whnf)
                      first | have g29 : act.tmps[29]?.getD undef = undef := hI.kept 29 (by kernel_rfl) | (have g29 := hI.kept 29 (by kernel_rfl); conv at g29 => rhs; whnf)
                      first | have g30 : act.tmps[30]?.getD undef = undef := hI.kept 30 (by kernel_rfl) | (have g30 := hI.kept 30 (by kernel_rfl); conv at g30 => rhs; whnf)
                      first | have g31 : act.tmps[31]?.getD undef = undef := hI.kept 31 (by kernel_rfl) | (have g31 := hI.kept 31 (by kernel_rfl); conv at g31 => rhs; whnf)
                      first | have g32 : act.tmps[32]?.getD undef = undef := hI.kept 32 (by kernel_rfl) | (have g32 := hI.kept 32 (by kernel_rfl); conv at g32 => rhs; whnf)
                      first | have g33 : act.tmps[33]?.getD undef = undef := hI.kept 33 (by kernel_rfl) | (have g33 := hI.kept 33 (by kernel_rfl); conv at g33 => rhs; whnf)
                      first | have g34 : act.tmps[34]?.getD undef = undef := hI.kept 34 (by kernel_rfl) | (have g34 := hI.kept 34 (by kernel_rfl); conv at g34 => rhs; whnf)
                      first | have g35 : act.tmps[35]?.getD undef = undef := hI.kept 35 (by kernel_rfl) | (have g35 := hI.kept 35 (by kernel_rfl); conv at g35 => rhs; whnf)
                      first | have g36 : act.tmps[36]?.getD undef = undef := hI.kept 36 (by kernel_rfl) | (have g36 := hI.kept 36 (by kernel_rfl); conv at g36 => rhs; whnf)
                      first | have g37 : act.tmps[37]?.getD undef = undef := hI.kept 37 (by kernel_rfl) | (have g37 := hI.kept 37 (by kernel_rfl); conv at g37 => rhs; whnf)
                      first | have g38 : act.tmps[38]?.getD undef = undef := hI.kept 38 (by kernel_rfl) | (have g38 := hI.kept 38 (by kernel_rfl); conv at g38 => rhs; whnf)
                      first | have g39 : act.tmps[39]?.getD undef = undef := hI.kept 39 (by kernel_rfl) | (have g39 := hI.kept 39 (by kernel_rfl); conv at g39 => rhs; whnf)
                      first | have g40 : act.tmps[40]?.getD undef = undef := hI.kept 40 (by kernel_rfl) | (have g40 := hI.kept 40 (by kernel_rfl); conv at g40 => rhs; whnf)
                      first | have g41 : act.tmps[41]?.getD undef = undef := hI.kept 41 (by kernel_rfl) | (have g41 := hI.kept 41 (by kernel_rfl); conv at g41 => rhs; whnf)
                      first | have g42 : act.tmps[42]?.getD undef = undef := hI.kept 42 (by kernel_rfl) | (have g42 := hI.kept 42 (by kernel_rfl); conv at g42 => rhs; whnf)
                      first | have g43 : act.tmps[43]?.getD undef = undef := hI.kept 43 (by kernel_rfl) | (have g43 := hI.kept 43 (by kernel_rfl); conv at g43 => rhs; whnf)
                      first | have g44 : act.tmps[44]?.getD undef = undef := hI.kept 44 (by kernel_rfl) | (have g44 := hI.kept 44 (by kernel_rfl); conv at g44 => rhs; whnf)
                      first | have g45 : act.tmps[45]?.getD undef = undef := hI.kept 45 (by kernel_rfl) | (have g45 := hI.kept 45 (by kernel_rfl); conv at g45 => rhs; whnf)
                      first | have g46 : act.tmps[46]?.getD undef = undef := hI.kept 46 (by kernel_rfl) | (have g46 := hI.kept 46 (by kernel_rfl); conv at g46 => rhs; whnf)
                      first | have g47 : act.tmps[47]?.getD undef = undef := hI.kept 47 (by kernel_rfl) | (have g47 := hI.kept 47 (by kernel_rfl); conv at g47 => rhs; whnf)
                      first | have g48 : act.tmps[48]?.getD undef = undef := hI.kept 48 (by kernel_rfl) | (have g48 := hI.kept 48 (by kernel_rfl); conv at g48 => rhs; whnf)
                      first | have g49 : act.tmps[49]?.getD undef = undef := hI.kept 49 (by kernel_rfl) | (have g49 := hI.kept 49 (by kernel_rfl); conv at g49 => rhs; whnf)
                      first | have g50 : act.tmps[50]?.getD undef = undef := hI.kept 50 (by kernel_rfl) | (have g50 := hI.kept 50 (by kernel_rfl); conv at g50 => rhs; whnf)
                      first | have g51 : act.tmps[51]?.getD undef = undef := hI.kept 51 (by kernel_rfl) | (have g51 := hI.kept 51 (by kernel_rfl); conv at g51 => rhs; whnf)
                      first | have g52 : act.tmps[52]?.getD undef = undef := hI.kept 52 (by kernel_rfl) | (have g52 := hI.kept 52 (by kernel_rfl); conv at g52 => rhs; whnf)
                      first | have g53 : act.tmps[53]?.getD undef = undef := hI.kept 53 (by kernel_rfl) | (have g53 := hI.kept 53 (by kernel_rfl); conv at g53 => rhs; whnf)
                      first | have g54 : act.tmps[54]?.getD undef = undef := hI.kept 54 (by kernel_rfl) | (have g54 := hI.kept 54 (by kernel_rfl); conv at g54 => rhs; whnf)
                      first | have g55 : act.tmps[55]?.getD undef = undef := hI.kept 55 (by kernel_rfl) | (have g55 := hI.kept 55 (by kernel_rfl); conv at g55 => rhs; whnf)
                      first | have g56 : act.tmps[56]?.getD undef = undef := hI.kept 56 (by kernel_rfl) | (have g56 := hI.kept 56 (by kernel_rfl); conv at g56 => rhs; whnf)
                      first | have g57 : act.tmps[57]?.getD undef = undef := hI.kept 57 (by kernel_rfl) | (have g57 := hI.kept 57 (by kernel_rfl); conv at g57 => rhs; whnf)
                      first | have g58 : act.tmps[58]?.getD undef = undef := hI.kept 58 (by kernel_rfl) | (have g58 := hI.kept 58 (by kernel_rfl); conv at g58 => rhs; whnf)
                      first | have g59 : act.tmps[59]?.getD undef = undef := hI.kept 59 (by kernel_rfl) | (have g59 := hI.kept 59 (by kernel_rfl); conv at g59 => rhs; whnf)
                      first | have g60 : act.tmps[60]?.getD undef = undef := hI.kept 60 (by kernel_rfl) | (have g60 := hI.kept 60 (by kernel_rfl); conv at g60 => rhs; whnf)
                      first | have g61 : act.tmps[61]?.getD undef = undef := hI.kept 61 (by kernel_rfl) | (have g61 := hI.kept 61 (by kernel_rfl); conv at g61 => rhs; whnf)
                      first | have g62 : act.tmps[62]?.getD undef = undef := hI.kept 62 (by kernel_rfl) | (have g62 := hI.kept 62 (by kernel_rfl); conv at g62 => rhs; whnf)
                      first | have g63 : act.tmps[63]?.getD undef = undef := hI.kept 63 (by kernel_rfl) | (have g63 := hI.kept 63 (by kernel_rfl); conv at g63 => rhs; whnf)
                      first | have g64 : act.tmps[64]?.getD undef = undef := hI.kept 64 (by kernel_rfl) | (have g64 := hI.kept 64 (by kernel_rfl); conv at g64 => rhs; whnf)
                      first | have g65 : act.tmps[65]?.getD undef = undef := hI.kept 65 (by kernel_rfl) | (have g65 := hI.kept 65 (by kernel_rfl); conv at g65 => rhs; whnf)
                      first | have g66 : act.tmps[66]?.getD undef = undef := hI.kept 66 (by kernel_rfl) | (have g66 := hI.kept 66 (by kernel_rfl); conv at g66 => rhs; whnf)
                      first | have g67 : act.tmps[67]?.getD undef = undef := hI.kept 67 (by kernel_rfl) | (have g67 := hI.kept 67 (by kernel_rfl); conv at g67 => rhs; whnf)
                      first | have g68 : act.tmps[68]?.getD undef = undef := hI.kept 68 (by kernel_rfl) | (have g68 := hI.kept 68 (by kernel_rfl); conv at g68 => rhs; whnf)
                      first | have g69 : act.tmps[69]?.getD undef = undef := hI.kept 69 (by kernel_rfl) | (have g69 := hI.kept 69 (by kernel_rfl); conv at g69 => rhs; whnf)
                      first | have g70 : act.tmps[70]?.getD undef = undef := hI.kept 70 (by kernel_rfl) | (have g70 := hI.kept 70 (by kernel_rfl); conv at g70 => rhs; whnf)
                      first | have g71 : act.tmps[71]?.getD undef = undef := hI.kept 71 (by kernel_rfl) | (have g71 := hI.kept 71 (by kernel_rfl); conv at g71 => rhs; whnf)
                      first | have g72 : act.tmps[72]?.getD undef = undef := hI.kept 72 (by kernel_rfl) | (have g72 := hI.kept 72 (by kernel_rfl); conv at g72 => rhs; whnf)
                      first | have g73 : act.tmps[73]?.getD undef = undef := hI.kept 73 (by kernel_rfl) | (have g73 := hI.kept 73 (by kernel_rfl); conv at g73 => rhs; whnf)
                      first | have g74 : act.tmps[74]?.getD undef = undef := hI.kept 74 (by kernel_rfl) | (have g74 := hI.kept 74 (by kernel_rfl); conv at g74 => rhs; whnf)
                      first | have g75 : act.tmps[75]?.getD undef = undef := hI.kept 75 (by kernel_rfl) | (have g75 := hI.kept 75 (by kernel_rfl); conv at g75 => rhs; whnf)
                      first | have g76 : act.tmps[76]?.getD undef = undef := hI.kept 76 (by kernel_rfl) | (have g76 := hI.kept 76 (by kernel_rfl); conv at g76 => rhs; whnf)
                      first | have g77 : act.tmps[77]?.getD undef = undef := hI.kept 77 (by kernel_rfl) | (have g77 := hI.kept 77 (by kernel_rfl); conv at g77 => rhs; whnf)
                      first | have g78 : act.tmps[78]?.getD undef = undef := hI.kept 78 (by kernel_rfl) | (have g78 := hI.kept 78 (by kernel_rfl); conv at g78 => rhs; whnf)
                      first | have g90 : act.tmps[90]?.getD undef = undef := hI.kept 90 (by kernel_rfl) | (have g90 := hI.kept 90 (by kernel_rfl); conv at g90 => rhs; whnf)
                      first | have g91 : act.tmps[91]?.getD undef = undef := hI.kept 91 (by kernel_rfl) | (have g91 := hI.kept 91 (by kernel_rfl); conv at g91 => rhs; whnf)
                      first | have g92 : act.tmps[92]?.getD undef = undef := hI.kept 92 (by kernel_rfl) | (have g92 := hI.kept 92 (by kernel_rfl); conv at g92 => rhs; whnf)
                      first | have g93 : act.tmps[93]?.getD undef = undef := hI.kept 93 (by kernel_rfl) | (have g93 := hI.kept 93 (by kernel_rfl); conv at g93 => rhs; whnf)
                      first | have g94 : act.tmps[94]?.getD undef = undef := hI.kept 94 (by kernel_rfl) | (have g94 := hI.kept 94 (by kernel_rfl); conv at g94 => rhs; whnf)
                      first | have g95 : act.tmps[95]?.getD undef = undef := hI.kept 95 (by kernel_rfl) | (have g95 := hI.kept 95 (by kernel_rfl); conv at g95 => rhs; whnf)
                      first | have g96 : act.tmps[96]?.getD undef = undef := hI.kept 96 (by kernel_rfl) | (have g96 := hI.kept 96 (by kernel_rfl); conv at g96 => rhs; whnf)
                      first | have g97 : act.tmps[97]?.getD undef = undef := hI.kept 97 (by kernel_rfl) | (have g97 := hI.kept 97 (by kernel_rfl); conv at g97 => rhs; whnf)
                      first | have g98 : act.tmps[98]?.getD undef = undef := hI.kept 98 (by kernel_rfl) | (have g98 := hI.kept 98 (by kernel_rfl); conv at g98 => rhs; whnf)
                      first | have g99 : act.tmps[99]?.getD undef = undef := hI.kept 99 (by kernel_rfl) | (have g99 := hI.kept 99 (by kernel_rfl); conv at g99 => rhs; whnf)
                      first | have g100 : act.tmps[100]?.getD undef = undef := hI.kept 100 (by kernel_rfl) | (have g100 := hI.kept 100 (by kernel_rfl); conv at g100 => rhs; whnf)
                      first | have g101 : act.tmps[101]?.getD undef = undef := hI.kept 101 (by kernel_rfl) | (have g101 := hI.kept 101 (by kernel_rfl); conv at g101 => rhs; whnf)
                      first | have g102 : act.tmps[102]?.getD undef = undef := hI.kept 102 (by kernel_rfl) | (have g102 := hI.kept 102 (by kernel_rfl); conv at g102 => rhs; whnf)
                      first | have g103 : act.tmps[103]?.getD undef = undef := hI.kept 103 (by kernel_rfl) | (have g103 := hI.kept 103 (by kernel_rfl); conv at g103 => rhs; whnf)
                      first | have g104 : act.tmps[104]?.getD undef = undef := hI.kept 104 (by kernel_rfl) | (have g104 := hI.kept 104 (by kernel_rfl); conv at g104 => rhs; whnf)
                      have hsz : act.tmps.size = 105 := hI.size.trans (by kernel_rfl)
                      have hd := hI.defers
                      clear hI hall hdd
                      obtain ⟨tt, dd⟩ := act
                      simp only at g0 g1 g2 g3 g4 g5 g6 g7 g8 g9 g10 g11 g12 g13 g14 g15 g16 g17 g18 g19 g20 g21 g22 g23 g24 g25 g26 g27 g28 g29 g30 g31 g32 g33 g34 g35 g36 g37 g38 g39 g40 g41 g42 g43 g44 g45 g46 g47 g48 g49 g50 g51 g52 g53 g54 g55 g56 g57 g58 g59 g60 g61 g62 g63 g64 g65 g66 g67 g68 g69 g70 g71 g72 g73 g74 g75 g76 g77 g78 g90 g91 g92 g93 g94 g95 g96 g97 g98 g99 g100 g101 g102 g103 g104 hsz hd
                      subst hd
                      have hl : tt = #[tt[0]?.getD undef, tt[1]?.getD undef, tt[2]?.getD undef, tt[3]?.getD undef, tt[4]?.getD undef, tt[5]?.getD undef, tt[6]?.getD undef, tt[7]?.getD undef, tt[8]?.getD undef, tt[9]?.getD undef, tt[10]?.getD undef, tt[11]?.getD undef, tt[12]?.getD undef, tt[13]?.getD undef, tt[14]?.getD undef, tt[15]?.getD undef, tt[16]?.getD undef, tt[17]?.getD undef, tt[18]?.getD undef, tt[19]?.getD undef, tt[20]?.getD undef, tt[21]?.getD undef, tt[22]?.getD undef, tt[23]?.getD undef, tt[24]?.getD undef, tt[25]?.getD undef, tt[26]?.getD undef, tt[27]?.getD undef, tt[28]?.getD undef, tt[29]?.getD undef, tt[30]?.getD undef, tt[31]?.getD undef, tt[32]?.getD undef, tt[33]?.getD undef, tt[34]?.getD undef, tt[35]?.getD undef, tt[36]?.getD undef, tt[37]?.getD undef, tt[38]?.getD undef, tt[39]?.getD undef, tt[40]?.getD undef, tt[41]?.getD undef, tt[42]?.getD undef, tt[43]?.getD undef, tt[44]?.getD undef, tt[45]?.getD undef, tt[46]?.getD undef, tt[47]?.getD undef, tt[48]?.getD undef, tt[49]?.getD undef, tt[50]?.getD undef, tt[51]?.getD undef, tt[52]?.getD undef, tt[53]?.getD undef, tt[54]?.getD undef, tt[55]?.getD undef, tt[56]?.getD undef, tt[57]?.getD undef, tt[58]?.getD undef, tt[59]?.getD undef, tt[60]?.getD undef, tt[61]?.getD undef, tt[62]?.getD undef, tt[63]?.getD undef, tt[64]?.getD undef, tt[65]?.getD undef, tt[66]?.getD undef, tt[67]?.getD undef, tt[68]?.getD undef, tt[69]?.getD undef, tt[70]?.getD undef, tt[71]?.getD undef, tt[72]?.getD undef, tt[73]?.getD undef, tt[74]?.getD undef, tt[75]?.getD undef, tt[76]?.getD undef, tt[77]?.getD undef, tt[78]?.getD undef, tt[79]?.getD undef, tt[80]?.getD undef, tt[81]?.getD undef, tt[82]?.getD undef, tt[83]?.getD undef, tt[84]?.getD undef, tt[85]?.getD undef, tt[86]?.getD undef, tt[87]?.getD undef, tt[88]?.getD undef, tt[89]?.getD undef, tt[90]?.getD undef, tt[91]?.getD undef, tt[92]?.getD undef, tt[93]?.getD undef, tt[94]?.getD undef, tt[95]?.getD undef, tt[96]?.getD undef, tt[97]?.getD undef, tt[98]?.getD undef, tt[99]?.getD undef, tt[100]?.getD undef, tt[101]?.getD undef, tt[102]?.getD undef, tt[103]?.getD undef, tt[104]?.getD undef] := (arr_lit hsz).trans rfl
                      rw [g0, g1, g2, g3, g4, g5, g6, g7, g8, g9, g10, g11, g12, g13, g14, g15, g16, g17, g18, g19, g20, g21, g22, g23, g24, g25, g26, g27, g28, g29, g30, g31, g32, g33, g34, g35, g36, g37, g38, g39, g40, g41, g42, g43, g44, g45, g46, g47, g48, g49, g50, g51, g52, g53, g54, g55, g56, g57, g58, g59, g60, g61, g62, g63, g64, g65, g66, g67, g68, g69, g70, g71, g72, g73, g74, g75, g76, g77, g78, g90, g91, g92, g93, g94, g95, g96, g97, g98, g99, g100, g101, g102, g103, g104] at hl
                      clear g0 g1 g2 g3 g4 g5 g6 g7 g8 g9 g10 g11 g12 g13 g14 g15 g16 g17 g18 g19 g20 g21 g22 g23 g24 g25 g26 g27 g28 g29 g30 g31 g32 g33 g34 g35 g36 g37 g38 g39 g40 g41 g42 g43 g44 g45 g46 g47 g48 g49 g50 g51 g52 g53 g54 g55 g56 g57 g58 g59 g60 g61 g62 g63 g64 g65 g66 g67 g68 g69 g70 g71 g72 g73 g74 g75 g76 g77 g78 g90 g91 g92 g93 g94 g95 g96 g97 g98 g99 g100 g101 g102 g103 g104 hsz
                      generalize tt[79]?.getD undef = y79 at hl
                      generalize tt[80]?.getD undef = y80 at hl
                      generalize tt[81]?.getD undef = y81 at hl
                      generalize tt[82]?.getD undef = y82 at hl
                      generalize tt[83]?.getD undef = y83 at hl
                      generalize tt[84]?.getD undef = y84 at hl
                      generalize tt[85]?.getD undef = y85 at hl
                      generalize tt[86]?.getD undef = y86 at hl
                      generalize tt[87]?.getD undef = y87 at hl
                      generalize tt[88]?.getD undef = y88 at hl
                      generalize tt[89]?.getD undef = y89 at hl
                      subst hl
                      clear f1a f1b f2a f2b hc1 hc2 hcm hjl
                      obtain ⟨w7, hw7⟩ : ∃ z, z = w6.drewN nq := ⟨_, rfl⟩
                      have HG7 : Hid (GrII w7 w.heap.size _ q2 vs2) := Lib.hid (by rw [hw7]; exact HG6.out)
                      have HB7 : Hid (Below w.heap.size w w7) := Lib.hid (by rw [hw7]; exact below_draws HB6.out _)
                      rw [← hw7]
                      clear hw7
                      obtain ⟨ga, hga⟩ : ∃ z, z = geq32 V1 r := ⟨_, rfl⟩
                      obtain ⟨gb, hgb⟩ : ∃ z, z = geq32 V2 r := ⟨_, rfl⟩
                      have HCB2 : Hid (croB r ms ss p j = (ga != gb)) := Lib.hid (by rw [HCB.out, hga, hgb])
                      have hga2 := hga.symm
                      have hgb2 := hgb.symm
                      unfold geq32 at hga2 hgb2
                      clear hga hgb
                      cases pc : (ga != gb)
                      · have HVK : Hid (vs2 = croAll r ms ss p ++ croRow r ms ss p k) := Lib.hid (by rw [HV2.out, HROW.out, HCB2.out, pc]; simp)
                        obtain rfl : gb = ga := by revert pc; cases ga <;> cases gb <;> simp
                        clear pc HCB2 HCB
                        cases gb
                        all_goals
                          go_wp2
                          go_roundw
                          case rel => exact ⟨k, q2, vs2, .inl (by omega), by go_num, HG7, HVK, HB7⟩
                          case measure => have := HJK.out; simp [intOf]; omega
                      · have HVK : Hid (vs2 ++ [((p : Int), (j : Int))] = croAll r ms ss p ++ croRow r ms ss p k) := Lib.hid (by rw [HV2.out, HROW.out, HCB2.out, pc]; simp)
                        have hown := HG7.out.1
                        obtain rfl : gb = !ga := by revert pc; cases ga <;> cases gb <;> simp
                        clear pc HCB2 HCB
                        cases ga
                        all_goals
                          go_wp2_with (first
                            | (at_builtin; refine wpList_append_own_at _ rfl _ _ 76 rfl w.heap.size 60 i0 (.slice none 0 0) 1 24 Try.underlying76 hi hz0 hz1 hz2 rfl (by decide) _ _ _ rfl ((hown.alloc _).alloc _) ⟨_, 0, none⟩ 1 1 [.slice (some ⟨w7.heap.size, 0, none⟩) 2 2] rfl rfl ?c1 ?c2 ?c3 ?c4 ?c5 ?_)
                            | fail)
                          case c1 =>
                            intro j u hj
                            match j, hj with
                            | 0, hj => simp at hj; subst hj; simp [Addr.add]
                          case c2 => intro u hu; simp at hu; subst hu; rfl
                          case c3 => have := HLEN.out; unfold maxLen; omega
                          case c4 => have := HLEN.out; omega
                          case c5 => have := HB7.out.size; simp; omega
                          · intro v' w8 hown' hgrow _ hat
                            obtain ⟨g2, b2⟩ := GrII.next (x := (p : Int)) (y := (j : Int)) HG7.out HB7.out (Nat.le_refl _) HB7.out.size hown' hgrow hat
                            have HG8 := Lib.hid g2
                            have HB8 := Lib.hid b2
                            clear g2 b2 hown hown' hgrow hat
                            go_wp2
                            go_roundw
                            case rel => exact ⟨k, _, _, .inl (by omega), by go_num, HG8, HVK, HB8⟩
                            case measure => have := HJK.out; simp [intOf]; omega
                · have HVE : Hid (vs2 = croAll r ms ss (p + 1)) := Lib.hid (by
                    rw [HV2.out]
                    show _ = croAll r ms ss p ++ croRow r ms ss p (ss.length - 1)
                    rw [show j = ss.length - 1 by omega])
                  go_wp2
                  go_roundw
                  case rel => exact ⟨p + 1, _, _, by have := HLT.out; omega, by go_num, HG2, HVE, HBQ⟩
                  case measure => have := HLT.out; simp [intOf]; omega
            · have hkk : p = ms.length := by omega
              subst hkk
              obtain ⟨A', cap', g, rfl, ho⟩ := HG.out.own
              have HO := Lib.hid ho
              have ey : croL m d s ms ss = vs := by rw [croL_yes HC.out, HV.out, HRE.out]
              clear ho
              go_wp2
              go_ret2
              exact ⟨A', cap', g, q, by rw [HC.out, ey]; rfl, by rw [ey]; exact HO.out, HBR.out⟩
end Go.Proofs.Ytpmjikchlofebaa
