/- The strongest sector of a rose: both sides. No statement is proved here. -/
import Derived.Test.YteligfbbofgonabRosP
import Derived.Test.YteligfbbofgonabSign
namespace Go.Proofs.Yteligfbbofgonab
open Go Go.RowKit
/-- the powers of the sectors, at a density of 1 -/
def ssAt (a l : List Nat) (k : Nat) : Nat := spAt a l 1065353216 k
def ssL (a l : List Nat) : List Nat := (List.range a.length).map (ssAt a l)
def strO (a l : List Nat) : Bool := rosV a l && alls (fun k => fin .f32 (ssAt a l k)) a.length
def strI (a l : List Nat) : Int := if strO a l then oI (fg (ssL a l) a.length) else 0
def strR (a l : List Nat) : Nat := if strO a l then oM (ssL a l) (fg (ssL a l) a.length) else 0
theorem ssL_at {a l : List Nat} {k : Nat} (h : k < a.length) : (ssL a l).getD k 0 = ssAt a l k := by
  unfold ssL
  simp [List.getD, List.getElem?_map, List.getElem?_range h]
theorem ss_canon (a l : List Nat) (k : Nat) : canon .f32 (ssAt a l k) = ssAt a l k := canon_fop ..
theorem strO_no {a l : List Nat} (h : strO a l = false) : strI a l = 0 ∧ strR a l = 0 := by unfold strI strR; rw [h]; exact ⟨rfl, rfl⟩
theorem strO_sec {a l : List Nat} (h : secO a l 1065353216 = false) : strO a l = false := by
  unfold strO
  cases hv : rosV a l
  · rfl
  · obtain ⟨k, hk, hp⟩ := secO_no hv h (by decide +kernel)
    exact alls_no (k := k + 1) (by simp only [alls]; rw [show fin .f32 (ssAt a l k) = false from mulR_not_fin hp, Bool.and_false]) hk
/-- what the powers are not below 0 -/
theorem ss_nn {a l : List Nat} (h : secO a l 1065353216 = true) : ∀ k, k < a.length → nn (FloatKind.f32.format.read (ssAt a l k)) := by
  intro k hk
  obtain ⟨hv, -, hp⟩ := secO_yes h
  obtain ⟨f, am⟩ := hp k hk
  have ha := amts_at (rosV_amts hv).1 k hk
  obtain ⟨g1, g1'⟩ := mul_fin2 f
  obtain ⟨g2, -⟩ := mul_fin2 g1
  obtain ⟨g3, -⟩ := mul_fin2 g2
  have n3 : nn (FloatKind.f32.format.read (fop .mul .f32 (canon .f32 1056964608) (canon .f32 1065353216))) := by
    refine nn_mul ?_ ?_ (by decide +kernel) (by decide +kernel)
    · exact nn_canon (by decide +kernel)
    · exact nn_canon (by decide +kernel)
  refine nn_mul (nn_canon ha) ?_ ?_ f
  · exact nn_mul (nn_mul (nn_mul n3 (nn_canon am) g3 g1') (nn_canon am) g2 g1') (nn_canon am) g1 g1'
  · unfold amount at ha; rw [Bool.and_eq_true] at ha; rw [fin_canon]; exact ha.1
/-- the first greatest of them: finite where all are -/
theorem str_most {a l zs : List Nat} (h : secO a l 1065353216 = true) (hl : zs.length = a.length) (hz : ∀ k, k < a.length → canon .f32 (zs.getD k 0) = ssAt a l k) :
    fin .f32 (oM zs (fg zs zs.length)) = strO a l ∧ (strO a l = true → oI (fg zs zs.length) = strI a l ∧ canon .f32 (oM zs (fg zs zs.length)) = strR a l) := by
  obtain ⟨hv, -, -⟩ := secO_yes h
  obtain ⟨q1, q2, q3⟩ := rosV_sized hv
  have hc : fg zs zs.length = fg (ssL a l) a.length := by
    rw [hl]; exact fg_congr _ (fun j hj => by rw [hz j hj, ssL_at hj, ss_canon])
  have hfin : ∀ j, j < a.length → fin .f32 (zs.getD j 0) = fin .f32 (ssAt a l j) := fun j hj => by rw [← fin_canon, hz j hj]
  have hnz : ∀ j, j < a.length → FloatKind.f32.format.read ((ssL a l).getD j 0) = FloatKind.f32.format.read (ssAt a l j) := fun j hj => by rw [ssL_at hj]
  have key := fg_inf (xs := ssL a l) a.length (fun j hj => by rw [hnz j hj]; exact ss_nn h j hj)
  cases ho : strO a l
  · refine ⟨?_, fun hh => by cases hh⟩
    have hno : alls (fun k => fin .f32 (ssAt a l k)) a.length = false := by unfold strO at ho; rw [hv, Bool.true_and] at ho; exact ho
    obtain ⟨j, hj, hf⟩ := alls_ex hno
    rcases key with h1 | ⟨b, hb, hi⟩
    · have := h1 j hj; rw [ssL_at hj] at this; rw [this] at hf; cases hf
    · have hbl := fg_lt _ _ _ hb
      rw [hc, hb]
      show fin .f32 (zs.getD b 0) = false
      rw [hfin b hbl]
      rw [ssL_at hbl] at hi
      exact inf_fin hi
  · have hy : alls (fun k => fin .f32 (ssAt a l k)) a.length = true := by unfold strO at ho; rw [hv, Bool.true_and] at ho; exact ho
    obtain ⟨b, hb, hbl⟩ := fg_some (xs := ssL a l) (fun j hj => by
      rw [show (ssL a l).length = a.length by unfold ssL; simp] at hj
      rw [ssL_at hj]; exact alls_at hy j hj) a.length (by omega) (by unfold ssL; simp)
    refine ⟨?_, fun _ => ?_⟩
    · rw [hc, hb]
      show fin .f32 (zs.getD b 0) = true
      rw [hfin b hbl]; exact alls_at hy b hbl
    · unfold strI strR
      rw [ho, hc, hb]
      refine ⟨rfl, ?_⟩
      show canon .f32 (zs.getD b 0) = (ssL a l).getD b 0
      rw [hz b hbl, ssL_at hbl]
set_option maxHeartbeats 4000000 in
set_option maxRecDepth 100000 in
theorem i_StrongestSector (A L : Option Addr) (ca cl : Nat) (a l : List Nat) (w : World) (h : Rs w A L a l) (hn : FewS a l) :
    Calls Try.prog 28 #[.agg #[.slice A a.length ca, .slice L l.length cl]] w fun e w' => ∃ r, e = .returned (.tuple #[.int .i64 (strI a l), .float .f32 r, .bool (strO a l)]) ∧ canon .f32 r = strR a l ∧ Below w.heap.size w w' := by
  have HP := Lib.hid h; clear h
  have HB : ∀ o1, Hid (Below w.heap.size w (w.alloc o1)) := fun _ => Lib.hid ((Below.refl _ _).alloc (Nat.le_refl _) _)
  go_enter Try.func28, Try.ntmps28
  go_wp2_with fail
  refine (i_sectorPowers A L ca cl a l 1065353216 _ (HP.out.below (HB _).out) hn).mono ?_
  rintro e w1 ⟨Z, cz, zs, rfl, hf, hq, b1⟩
  have B1 : Hid (Below w.heap.size w w1) := Lib.hid (below_of (HB _).out (HB _).out.size b1)
  have HF := Lib.hid hf
  have HQ := Lib.hid hq
  clear b1 hf hq
  cases so : secO a l 1065353216
  · have HN := Lib.hid (strO_sec so); clear so
    have H0 := Lib.hid (strO_no HN.out)
    go_wp2
    refine bodyPost_ret (results_tmp3 rfl _ _ _) rfl ?_
    exact ⟨_, by rw [HN.out, H0.out.1]; rfl, by rw [H0.out.2]; exact canon_zero, B1.out⟩
  · obtain ⟨hl, hz⟩ := HQ.out so
    have hs := rosV_sized (secO_yes so).1
    obtain ⟨m1, m2⟩ := str_most so hl hz
    have M1 := Lib.hid m1
    have M2 := Lib.hid m2
    have h256 : zs.length ≤ 1048576 := by have := hs.2.1; omega
    clear so hl hz hs m1 m2
    go_wp2_with fail
    refine (i_firstGreatest Z cz zs _ HF.out h256).mono ?_
    rintro e w' ⟨n, rfl, rfl⟩
    generalize hi : oI (fg zs zs.length) = bi at M2
    generalize hm : oM zs (fg zs zs.length) = bm at M1 M2
    clear hi hm
    go_wp2_with fail
    refine (i_notFinite _ _).mono ?_
    rintro e w' ⟨n2, rfl, rfl⟩
    rw [M1.out]
    cases ho : strO a l
    · have HO := Lib.hid ho
      have H0 := Lib.hid (strO_no ho)
      clear ho
      go_wp2
      refine bodyPost_ret (results_tmp3 rfl _ _ _) rfl ?_
      exact ⟨_, by rw [H0.out.1, HO.out]; rfl, by rw [H0.out.2]; exact canon_zero, by repeat (first | exact B1.out | refine below_draws ?_ _)⟩
    · have HO := Lib.hid (M2.out ho)
      have HT := Lib.hid ho
      clear ho
      go_wp2
      refine bodyPost_ret (results_tmp3 rfl _ _ _) rfl ?_
      exact ⟨_, by rw [← HO.out.1, HT.out]; rfl, HO.out.2, by repeat (first | exact B1.out | refine below_draws ?_ _)⟩
set_option maxHeartbeats 8000000 in
set_option maxRecDepth 100000 in
theorem s_StrongestSector (A L : Option Addr) (ca cl : Nat) (a l : List Nat) (w : World) (h : Rs w A L a l) (hn : FewS a l) :
    Calls Try.prog 27 #[.agg #[.slice A a.length ca, .slice L l.length cl]] w fun e w' => ∃ r, e = .returned (.tuple #[.int .i64 (strI a l), .float .f32 r, .bool (strO a l)]) ∧ canon .f32 r = strR a l ∧ Below w.heap.size w w' := by
  have HP := Lib.hid h; clear h
  obtain ⟨w1, hw1⟩ : ∃ w1, w1 = w.alloc (.cells #[.slice A a.length ca, .slice L l.length cl] 27) := ⟨_, rfl⟩
  have B1 : Hid (Below w.heap.size w w1) := Lib.hid (by rw [hw1]; exact (Below.refl _ _).alloc (Nat.le_refl _) _)
  have K1 : Hid (BlkL w1 w.heap.size [.slice A a.length ca, .slice L l.length cl]) := Lib.hid (by rw [hw1]; exact blkL_at w #[.slice A a.length ca, .slice L l.length cl] _ rfl)
  obtain ⟨k0, k1⟩ := K1.out.two
  have HPB := Lib.hid (HP.out.below B1.out)
  go_enter Try.func27, Try.ntmps27
  go_wp2_with fail
  rw [← hw1]
  clear hw1
  refine (s_l04Rose A L ca cl a l _ _ HPB.out hn K1.out).mono ?_
  rintro e w' ⟨rfl, n1, rfl⟩
  cases v : rosV a l
  · have HN : Hid (strO a l = false) := Lib.hid (by unfold strO; rw [v]; rfl)
    have H0 := Lib.hid (strO_no HN.out)
    clear v
    go_wp2
    refine bodyPost_ret (results_tmp3 rfl _ _ _) rfl ?_
    exact ⟨_, by rw [HN.out, H0.out.1]; rfl, by rw [H0.out.2]; exact canon_zero, below_draws B1.out _⟩
  · have V := Lib.hid v
    obtain ⟨s1, s2, s3⟩ := rosV_sized v
    clear v
    have hle : a.length ≤ l.length := by omega
    have S3 := Lib.hid s3; clear s3
    go_wp2_with fail
    go_loopw [5, 6, 7] (fun b m i wr => ∃ k n c r : Nat, k ≤ a.length ∧ i = .int .i64 k ∧ b = .int .i64 c ∧ m = .float .f32 r ∧ Hid ((k = 0 ∧ c = 0) ∨ (fg (ssL a l) k = some c ∧ canon .f32 r = (ssL a l).getD c 0)) ∧ Hid (alls (fun j => fin .f32 (ssAt a l j)) k = true) ∧ wr = w1.drewN n) (fun _ _ i _ => a.length - (intOf i).toNat)
    case atStart => exact ⟨0, _, 0, 0, Nat.zero_le _, rfl, rfl, rfl, Lib.hid (.inl ⟨rfl, rfl⟩), rfl, rfl⟩
    case round =>
      obtain ⟨k, n, c, r, hk, rfl, rfl, rfl, hor, hal, rfl⟩ := hrel
      by_cases hlt : k < a.length
      · obtain ⟨b, off, rfl, hb, hc⟩ := HPB.out.1.at_ hlt
        obtain ⟨b', off', rfl, hb', hc'⟩ := HPB.out.2.at_ (show k < l.length by omega)
        have hlt2 : k < l.length := by omega
        have HS : Hid (ssAt a l k = fop .mul .f32 (canon .f32 (a.getD k 0)) (powV 1065353216 (l.getD k 0))) := rfl
        generalize a.getD k 0 = x at hc HS
        generalize l.getD k 0 = y at hc' HS
        clear hb hb'
        have hdd : ∀ nn j, ∃ mm, (w1.drewN nn).drewN j = w1.drewN mm := fun nn j => ⟨nn + j, World.drewN_drewN ..⟩
        have hst : ∀ m, ∃ nn, { (w1.drewN m) with drawn := (w1.drewN m).drawn + 1 } = w1.drewN nn := fun m => ⟨m + 1, rfl⟩
        go_wp2_with fail
        refine wp_region_inv3 (fun q0 v => match q0 with
          | 0 => v = .pointer (some ⟨w.heap.size, 0, none⟩)
          | 1 => v = .slice (some ⟨b, off, none⟩) a.length ca
          | 2 => v = .int .i64 k
          | 3 => v = .pointer (some ⟨b, off + k, none⟩)
          | 4 => v = .float .f32 x
          | 5 => v = .pointer (some ⟨w.heap.size, 1, none⟩)
          | 6 => v = .slice (some ⟨b', off', none⟩) l.length cl
          | 7 => v = .int .i64 k
          | 8 => v = .pointer (some ⟨b', off' + k, none⟩)
          | 9 => v = .float .f32 y
          | 10 => ∃ r, v = .float .f32 r ∧ canon .f32 r = powV 1065353216 y
          | 11 => ∃ r, v = .float .f32 r ∧ canon .f32 r = fop .mul .f32 (canon .f32 x) (powV 1065353216 y)
          | 12 => ∃ r, v = .float .f32 r ∧ canon .f32 r = fop .mul .f32 (canon .f32 x) (powV 1065353216 y)
          | _ => False) (fun _ ww => ∃ nn, ww = w1.drewN nn) (by kernel_rfl) (by kernel_rfl) (hst _) ?hop ?hend
        case hop =>
          intro q o hq listed act w3 hI hnot hcl hall
          obtain ⟨nn, rfl⟩ := hI.cls
          rcases q with _ | _ | _ | _ | _ | _ | _ | _ | _ | _ | _ | _ | _ | q
          · simp at hq; subst hq
            have g1 : act.tmps[1]?.getD undef = .pointer (some ⟨w.heap.size, 0, none⟩) := hI.kept 1 (by kernel_rfl)
            clear hI hall hnot hcl
            refine .inl ⟨wanted_none rfl, ?_⟩
            unfold Oper.wp
            go_simp
            all_goals exact ⟨_, rfl, rfl, ⟨_, rfl⟩⟩
          · simp at hq; subst hq
            have g18 : act.tmps[18]?.getD undef = .pointer (some ⟨w.heap.size, 0, none⟩) := hI.has 0 18 rfl (hall ⟨0, .data⟩ (by simp) rfl)
            clear hI hall hnot hcl
            refine .inl ⟨wanted_none rfl, ?_⟩
            unfold Oper.wp
            go_simp
            all_goals exact ⟨_, rfl, rfl, ⟨_, rfl⟩⟩
          · simp at hq; subst hq
            have g7 : act.tmps[7]?.getD undef = .int .i64 k := hI.kept 7 (by kernel_rfl)
            clear hI hall hnot hcl
            refine .inl ⟨wanted_none rfl, ?_⟩
            unfold Oper.wp
            go_simp
            all_goals exact ⟨_, rfl, rfl, ⟨_, rfl⟩⟩
          · simp at hq; subst hq
            have g19 : act.tmps[19]?.getD undef = .slice (some ⟨b, off, none⟩) a.length ca := hI.has 1 19 rfl (hall ⟨1, .data⟩ (by simp) rfl)
            have g20 : act.tmps[20]?.getD undef = .int .i64 k := hI.has 2 20 rfl (hall ⟨2, .data⟩ (by simp) rfl)
            clear hI hall hnot hcl
            refine .inl ⟨wanted_none rfl, ?_⟩
            unfold Oper.wp
            go_simp
            all_goals exact ⟨_, rfl, rfl, ⟨_, rfl⟩⟩
          · simp at hq; subst hq
            have g21 : act.tmps[21]?.getD undef = .pointer (some ⟨b, off + k, none⟩) := hI.has 3 21 rfl (hall ⟨3, .data⟩ (by simp) rfl)
            clear hI hall hnot hcl
            refine .inl ⟨wanted_none rfl, ?_⟩
            unfold Oper.wp
            go_simp
            all_goals exact ⟨_, rfl, rfl, ⟨_, rfl⟩⟩
          · simp at hq; subst hq
            have g1 : act.tmps[1]?.getD undef = .pointer (some ⟨w.heap.size, 0, none⟩) := hI.kept 1 (by kernel_rfl)
            clear hI hall hnot hcl
            refine .inl ⟨wanted_none rfl, ?_⟩
            unfold Oper.wp
            go_simp
            all_goals exact ⟨_, rfl, rfl, ⟨_, rfl⟩⟩
          · simp at hq; subst hq
            have g23 : act.tmps[23]?.getD undef = .pointer (some ⟨w.heap.size, 1, none⟩) := hI.has 5 23 rfl (hall ⟨5, .data⟩ (by simp) rfl)
            clear hI hall hnot hcl
            refine .inl ⟨wanted_none rfl, ?_⟩
            unfold Oper.wp
            go_simp
            all_goals exact ⟨_, rfl, rfl, ⟨_, rfl⟩⟩
          · simp at hq; subst hq
            have g7 : act.tmps[7]?.getD undef = .int .i64 k := hI.kept 7 (by kernel_rfl)
            clear hI hall hnot hcl
            refine .inl ⟨wanted_none rfl, ?_⟩
            unfold Oper.wp
            go_simp
            all_goals exact ⟨_, rfl, rfl, ⟨_, rfl⟩⟩
          · simp at hq; subst hq
            have g24 : act.tmps[24]?.getD undef = .slice (some ⟨b', off', none⟩) l.length cl := hI.has 6 24 rfl (hall ⟨6, .data⟩ (by simp) rfl)
            have g25 : act.tmps[25]?.getD undef = .int .i64 k := hI.has 7 25 rfl (hall ⟨7, .data⟩ (by simp) rfl)
            clear hI hall hnot hcl
            refine .inl ⟨wanted_none rfl, ?_⟩
            unfold Oper.wp
            go_simp
            all_goals exact ⟨_, rfl, rfl, ⟨_, rfl⟩⟩
          · simp at hq; subst hq
            have g26 : act.tmps[26]?.getD undef = .pointer (some ⟨b', off' + k, none⟩) := hI.has 8 26 rfl (hall ⟨8, .data⟩ (by simp) rfl)
            clear hI hall hnot hcl
            refine .inl ⟨wanted_none rfl, ?_⟩
            unfold Oper.wp
            go_simp
            all_goals exact ⟨_, rfl, rfl, ⟨_, rfl⟩⟩
          · simp at hq; subst hq
            have g27 : act.tmps[27]?.getD undef = .float .f32 y := hI.has 9 27 rfl (hall ⟨9, .data⟩ (by simp) rfl)
            clear hI hall hnot hcl
            refine .inl ⟨wanted_none rfl, ?_⟩
            unfold Oper.wp
            go_simp
            refine (s_l04Power _ _ _).mono ?_
            rintro e w4 ⟨rp, np, rfl, hrp, rfl⟩
            exact ⟨_, rfl, ⟨_, rfl, hrp⟩, by first | exact ⟨_, rfl⟩ | exact hdd _ _⟩
          · simp at hq; subst hq
            have g22 : act.tmps[22]?.getD undef = .float .f32 x := hI.has 4 22 rfl (hall ⟨4, .data⟩ (by simp) rfl)
            obtain ⟨r10, g28, h10a⟩ := hI.has 10 28 rfl (hall ⟨10, .data⟩ (by simp) rfl)
            clear hI hall hnot hcl
            refine .inl ⟨wanted_none rfl, ?_⟩
            unfold Oper.wp
            go_simp
            exact ⟨_, rfl, ⟨_, rfl, canonF rfl h10a⟩, by first | exact ⟨_, rfl⟩ | exact hdd _ _⟩
          · simp at hq; subst hq
            obtain ⟨r11, g29, h11a⟩ := hI.has 11 29 rfl (hall ⟨11, .data⟩ (by simp) rfl)
            clear hI hall hnot hcl
            refine .inl ⟨wanted_none rfl, ?_⟩
            unfold Oper.wp
            go_simp
            exact ⟨_, rfl, ⟨_, rfl, h11a⟩, ⟨_, rfl⟩⟩
          · simp at hq
        case hend =>
          intro listed act w3 hI hall
          obtain ⟨nn, rfl⟩ := hI.cls
          obtain ⟨rq, g8, hrq⟩ := hI.has 12 8 rfl (hall 12 (by decide))
          have g7 : act.tmps[7]?.getD undef = .int .i64 k := hI.kept 7 (by kernel_rfl)
          have g5 : act.tmps[5]?.getD undef = .int .i64 c := hI.kept 5 (by kernel_rfl)
          have g6 : act.tmps[6]?.getD undef = .float .f32 r := hI.kept 6 (by kernel_rfl)
          have g0 := hI.kept 0 (by kernel_rfl)
          conv at g0 => rhs; whnf
          have g1 := hI.kept 1 (by kernel_rfl)
          conv at g1 => rhs; whnf
          have g9 := hI.kept 9 (by kernel_rfl)
          conv at g9 => rhs; whnf
          have g10 := hI.kept 10 (by kernel_rfl)
          conv at g10 => rhs; whnf
          have g42 : act.tmps[42]?.getD undef = undef := hI.kept 42 (by kernel_rfl)
          have g43 : act.tmps[43]?.getD undef = undef := hI.kept 43 (by kernel_rfl)
          have hsz : act.tmps.size = 44 := hI.size.trans (by kernel_rfl)
          have hd := hI.defers
          clear hI hall
          obtain ⟨tt, dd⟩ := act
          simp only at g0 g1 g5 g6 g7 g8 g9 g10 g42 g43 hsz hd
          subst hd
          have hl : tt = #[tt[0]?.getD undef, tt[1]?.getD undef, tt[2]?.getD undef, tt[3]?.getD undef, tt[4]?.getD undef, tt[5]?.getD undef, tt[6]?.getD undef, tt[7]?.getD undef, tt[8]?.getD undef, tt[9]?.getD undef, tt[10]?.getD undef, tt[11]?.getD undef, tt[12]?.getD undef, tt[13]?.getD undef, tt[14]?.getD undef, tt[15]?.getD undef, tt[16]?.getD undef, tt[17]?.getD undef, tt[18]?.getD undef, tt[19]?.getD undef, tt[20]?.getD undef, tt[21]?.getD undef, tt[22]?.getD undef, tt[23]?.getD undef, tt[24]?.getD undef, tt[25]?.getD undef, tt[26]?.getD undef, tt[27]?.getD undef, tt[28]?.getD undef, tt[29]?.getD undef, tt[30]?.getD undef, tt[31]?.getD undef, tt[32]?.getD undef, tt[33]?.getD undef, tt[34]?.getD undef, tt[35]?.getD undef, tt[36]?.getD undef, tt[37]?.getD undef, tt[38]?.getD undef, tt[39]?.getD undef, tt[40]?.getD undef, tt[41]?.getD undef, tt[42]?.getD undef, tt[43]?.getD undef] := (arr_lit hsz).trans rfl
          rw [g0, g1, g5, g6, g7, g8, g9, g10, g42, g43] at hl
          clear g0 g1 g5 g6 g7 g8 g9 g10 g42 g43 hsz
          generalize tt[2]?.getD undef = y2 at hl
          generalize tt[3]?.getD undef = y3 at hl
          generalize tt[4]?.getD undef = y4 at hl
          generalize tt[11]?.getD undef = y11 at hl
          generalize tt[12]?.getD undef = y12 at hl
          generalize tt[13]?.getD undef = y13 at hl
          generalize tt[14]?.getD undef = y14 at hl
          generalize tt[15]?.getD undef = y15 at hl
          generalize tt[16]?.getD undef = y16 at hl
          generalize tt[17]?.getD undef = y17 at hl
          generalize tt[18]?.getD undef = y18 at hl
          generalize tt[19]?.getD undef = y19 at hl
          generalize tt[20]?.getD undef = y20 at hl
          generalize tt[21]?.getD undef = y21 at hl
          generalize tt[22]?.getD undef = y22 at hl
          generalize tt[23]?.getD undef = y23 at hl
          generalize tt[24]?.getD undef = y24 at hl
          generalize tt[25]?.getD undef = y25 at hl
          generalize tt[26]?.getD undef = y26 at hl
          generalize tt[27]?.getD undef = y27 at hl
          generalize tt[28]?.getD undef = y28 at hl
          generalize tt[29]?.getD undef = y29 at hl
          generalize tt[30]?.getD undef = y30 at hl
          generalize tt[31]?.getD undef = y31 at hl
          generalize tt[32]?.getD undef = y32 at hl
          generalize tt[33]?.getD undef = y33 at hl
          generalize tt[34]?.getD undef = y34 at hl
          generalize tt[35]?.getD undef = y35 at hl
          generalize tt[36]?.getD undef = y36 at hl
          generalize tt[37]?.getD undef = y37 at hl
          generalize tt[38]?.getD undef = y38 at hl
          generalize tt[39]?.getD undef = y39 at hl
          generalize tt[40]?.getD undef = y40 at hl
          generalize tt[41]?.getD undef = y41 at hl
          subst hl
          have HQ : Hid (canon .f32 rq = ssAt a l k) := Lib.hid (by rw [hrq, HS.out])
          have HFq : Hid (fin .f32 rq = fin .f32 (ssAt a l k)) := Lib.hid (by rw [← HQ.out, fin_canon])
          clear hrq
          go_wp2_with fail
          refine (s_l01Finite _ _).mono ?_
          rintro e w' ⟨n5, rfl, rfl⟩
          cases pf : fin .f32 rq
          · have HN : Hid (strO a l = false) := Lib.hid (by unfold strO; rw [V.out, Bool.true_and]; exact alls_no (k := k + 1) (by simp only [alls]; rw [← HFq.out, pf, Bool.and_false]) hlt)
            have H0 := Lib.hid (strO_no HN.out)
            clear pf
            go_wp2
            refine bodyPost_ret (results_tmp3 rfl _ _ _) rfl ?_
            exact ⟨_, by rw [HN.out, H0.out.1]; rfl, by rw [H0.out.2]; exact canon_zero, by repeat (first | exact B1.out | refine below_draws ?_ _)⟩
          · have HAl : Hid (alls (fun j => fin .f32 (ssAt a l j)) (k + 1) = true) := Lib.hid (by simp only [alls]; rw [hal.out, ← HFq.out, pf]; rfl)
            have HNan : Hid (isn .f32 ((ssL a l).getD k 0) = false) := Lib.hid (by rw [ssL_at hlt]; exact isn_of_fin (HFq.out.symm.trans pf))
            have HSS : Hid ((ssL a l).getD k 0 = ssAt a l k) := Lib.hid (ssL_at hlt)
            clear pf
            by_cases hk0 : k = 0
            · have H1 : Hid (fg (ssL a l) (k + 1) = some k) := Lib.hid (by
                subst hk0
                show fgStep (ssL a l) 0 none = some 0
                unfold fgStep; rw [HNan.out]; rfl)
              subst hk0
              go_wp2
              go_roundw
              case rel => exact ⟨1, _, 0, rq, by omega, rfl, rfl, rfl, Lib.hid (.inr ⟨H1.out, by rw [HQ.out, HSS.out]⟩), HAl, by first | rfl | exact hdd _ _ | trivial⟩
              case measure => simp [intOf]; omega
            · have hpair : fg (ssL a l) k = some c ∧ canon .f32 r = (ssL a l).getD c 0 := by
                rcases hor.out with ⟨h1, -⟩ | h1
                · exact absurd h1 hk0
                · exact h1
              have HPr := Lib.hid hpair
              have HG : Hid (gtr32 ((ssL a l).getD k 0) ((ssL a l).getD c 0) = (FloatKind.f32.format.order rq r == some .gt)) := Lib.hid (by rw [HSS.out, ← HPr.out.2, ← HQ.out]; unfold gtr32; rw [order_canon])
              have HST : Hid (fg (ssL a l) (k + 1) = if gtr32 ((ssL a l).getD k 0) ((ssL a l).getD c 0) then some k else some c) := Lib.hid (by
                show fgStep (ssL a l) k (fg (ssL a l) k) = _
                unfold fgStep; rw [HNan.out, HPr.out.1]; rfl)
              clear hpair
              cases hg : (FloatKind.f32.format.order rq r == some .gt)
              · have H1 : Hid (fg (ssL a l) (k + 1) = some c) := Lib.hid (by rw [HST.out, HG.out, hg]; rfl)
                go_wp2
                go_roundw
                case rel => exact ⟨k + 1, _, c, r, by omega, by go_num, rfl, rfl, Lib.hid (.inr ⟨H1.out, HPr.out.2⟩), HAl, by first | rfl | exact hdd _ _ | trivial⟩
                case measure => simp [intOf]; omega
              · have H1 : Hid (fg (ssL a l) (k + 1) = some k) := Lib.hid (by rw [HST.out, HG.out, hg]; rfl)
                go_wp2
                go_roundw
                case rel => exact ⟨k + 1, _, k, rq, by omega, by go_num, rfl, rfl, Lib.hid (.inr ⟨H1.out, by rw [HQ.out, HSS.out]⟩), HAl, by first | rfl | exact hdd _ _ | trivial⟩
                case measure => simp [intOf]; omega
      · have hkk : k = a.length := by omega
        subst hkk
        have HO : Hid (strO a l = true) := Lib.hid (by unfold strO; rw [V.out, Bool.true_and]; exact hal.out)
        have HPr : Hid (fg (ssL a l) a.length = some c ∧ canon .f32 r = (ssL a l).getD c 0) := Lib.hid (by
          rcases hor.out with ⟨h1, -⟩ | h1
          · omega
          · exact h1)
        go_wp2
        refine bodyPost_ret (results_tmp3 rfl _ _ _) rfl ?_
        exact ⟨_, by unfold strI; rw [HPr.out.1, HO.out]; rfl, by unfold strR; rw [HO.out, HPr.out.1]; exact HPr.out.2, by repeat (first | exact B1.out | refine below_draws ?_ _)⟩
end Go.Proofs.Yteligfbbofgonab
