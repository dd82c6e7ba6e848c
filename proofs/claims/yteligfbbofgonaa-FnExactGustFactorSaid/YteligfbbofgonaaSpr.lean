/- How far winds spread: both sides. No statement is proved here. -/
import Derived.Test.YteligfbbofgonaaWin
import Derived.Test.YteligfbbofgonaaList
namespace Go.Proofs.Yteligfbbofgonaa
open Go Go.RowKit
theorem sprO_no {xs : List Nat} (h : mwO xs = false) : sprO xs = false ∧ sprR xs = 0 := by
  unfold sprO sprR
  cases v : winV xs
  · exact ⟨rfl, rfl⟩
  · unfold mwO at h
    rw [v, Bool.true_and] at h
    have := sprV_mean v h
    exact ⟨by rw [this]; rfl, by rw [if_pos rfl]; unfold onlyN; rw [this]; rfl⟩
set_option maxHeartbeats 4000000 in
theorem i_sprAt (B B' j m M : Nat) (A : Option Addr) (cap : Nat) (xs : List Nat) (w : World) (h : Fl w A xs) (hk : w.cell? ⟨B, 0, none⟩ = some (.slice A xs.length cap)) (hk' : w.cell? ⟨B', 0, none⟩ = some (.float .f32 m)) (hm : canon .f32 m = M) (hj : j < xs.length) :
    Calls Try.prog 72 #[.int .i64 j, .pointer (some ⟨B, 0, none⟩), .pointer (some ⟨B', 0, none⟩)] w fun e w' => ∃ r, e = .returned (.float .f32 r) ∧ canon .f32 r = sqAt xs M j ∧ ∃ n, w' = w.drewN n := by
  obtain ⟨b, off, rfl, hb, hc⟩ := h.at_ hj
  clear h hb
  have HX : Hid (sqAt xs M j = fop .mul .f32 (fop .sub .f32 (canon .f32 (xs.getD j 0)) M) (fop .sub .f32 (canon .f32 (xs.getD j 0)) M)) := rfl
  generalize xs.getD j 0 = x at hc HX
  have hdd : ∀ nn j, ∃ mm, (w.drewN nn).drewN j = w.drewN mm := fun nn j => ⟨nn + j, World.drewN_drewN ..⟩
  go_enter Try.func72, Try.ntmps72
  go_wp2_with fail
  refine wp_region_inv3 (fun q0 v => match q0 with
    | 0 => v = .slice (some ⟨b, off, none⟩) xs.length cap
    | 1 => v = .int .i64 j
    | 2 => v = .pointer (some ⟨b, off + j, none⟩)
    | 3 => v = .float .f32 x
    | 4 => ∃ r, v = .float .f32 r ∧ canon .f32 r = M
    | 5 => ∃ r, v = .float .f32 r ∧ canon .f32 r = fop .sub .f32 (canon .f32 x) (M)
    | 6 => v = .slice (some ⟨b, off, none⟩) xs.length cap
    | 7 => v = .int .i64 j
    | 8 => v = .pointer (some ⟨b, off + j, none⟩)
    | 9 => v = .float .f32 x
    | 10 => ∃ r, v = .float .f32 r ∧ canon .f32 r = M
    | 11 => ∃ r, v = .float .f32 r ∧ canon .f32 r = fop .sub .f32 (canon .f32 x) (M)
    | 12 => ∃ r, v = .float .f32 r ∧ canon .f32 r = fop .mul .f32 (fop .sub .f32 (canon .f32 x) (M)) (fop .sub .f32 (canon .f32 x) (M))
    | 13 => ∃ r, v = .float .f32 r ∧ canon .f32 r = fop .mul .f32 (fop .sub .f32 (canon .f32 x) (M)) (fop .sub .f32 (canon .f32 x) (M))
    | _ => False) (fun _ ww => ∃ nn, ww = w.drewN nn) (by kernel_rfl) (by kernel_rfl) ⟨1, rfl⟩ ?hop ?hend
  case hop =>
    intro q o hq listed act w3 hI hnot hcl hall
    obtain ⟨nn, rfl⟩ := hI.cls
    rcases q with _ | _ | _ | _ | _ | _ | _ | _ | _ | _ | _ | _ | _ | _ | q
    · simp at hq; subst hq
      have g1 : act.tmps[1]?.getD undef = .pointer (some ⟨B, 0, none⟩) := hI.kept 1 (by kernel_rfl)
      clear hI hall hnot hcl
      refine .inl ⟨wanted_none rfl, ?_⟩
      unfold Oper.wp
      go_simp
      all_goals exact ⟨_, rfl, rfl, ⟨_, rfl⟩⟩
    · simp at hq; subst hq
      have g0 : act.tmps[0]?.getD undef = .int .i64 j := hI.kept 0 (by kernel_rfl)
      clear hI hall hnot hcl
      refine .inl ⟨wanted_none rfl, ?_⟩
      unfold Oper.wp
      go_simp
      all_goals exact ⟨_, rfl, rfl, ⟨_, rfl⟩⟩
    · simp at hq; subst hq
      have g5 : act.tmps[5]?.getD undef = .slice (some ⟨b, off, none⟩) xs.length cap := hI.has 0 5 rfl (hall ⟨0, .data⟩ (by simp) rfl)
      have g6 : act.tmps[6]?.getD undef = .int .i64 j := hI.has 1 6 rfl (hall ⟨1, .data⟩ (by simp) rfl)
      clear hI hall hnot hcl
      refine .inl ⟨wanted_none rfl, ?_⟩
      unfold Oper.wp
      go_simp
      all_goals exact ⟨_, rfl, rfl, ⟨_, rfl⟩⟩
    · simp at hq; subst hq
      have g7 : act.tmps[7]?.getD undef = .pointer (some ⟨b, off + j, none⟩) := hI.has 2 7 rfl (hall ⟨2, .data⟩ (by simp) rfl)
      clear hI hall hnot hcl
      refine .inl ⟨wanted_none rfl, ?_⟩
      unfold Oper.wp
      go_simp
      all_goals exact ⟨_, rfl, rfl, ⟨_, rfl⟩⟩
    · simp at hq; subst hq
      have g2 : act.tmps[2]?.getD undef = .pointer (some ⟨B', 0, none⟩) := hI.kept 2 (by kernel_rfl)
      clear hI hall hnot hcl
      refine .inl ⟨wanted_none rfl, ?_⟩
      unfold Oper.wp
      go_simp
      exact ⟨_, rfl, ⟨_, rfl, hm⟩, ⟨_, rfl⟩⟩
    · simp at hq; subst hq
      have g8 : act.tmps[8]?.getD undef = .float .f32 x := hI.has 3 8 rfl (hall ⟨3, .data⟩ (by simp) rfl)
      obtain ⟨r4, g9, h4a⟩ := hI.has 4 9 rfl (hall ⟨4, .data⟩ (by simp) rfl)
      clear hI hall hnot hcl
      refine .inl ⟨wanted_none rfl, ?_⟩
      unfold Oper.wp
      go_simp
      exact ⟨_, rfl, ⟨_, rfl, canonF rfl h4a⟩, by first | exact ⟨_, rfl⟩ | exact hdd _ _⟩
    · simp at hq; subst hq
      have g1 : act.tmps[1]?.getD undef = .pointer (some ⟨B, 0, none⟩) := hI.kept 1 (by kernel_rfl)
      clear hI hall hnot hcl
      refine .inl ⟨wanted_none rfl, ?_⟩
      unfold Oper.wp
      go_simp
      all_goals exact ⟨_, rfl, rfl, ⟨_, rfl⟩⟩
    · simp at hq; subst hq
      have g0 : act.tmps[0]?.getD undef = .int .i64 j := hI.kept 0 (by kernel_rfl)
      clear hI hall hnot hcl
      refine .inl ⟨wanted_none rfl, ?_⟩
      unfold Oper.wp
      go_simp
      all_goals exact ⟨_, rfl, rfl, ⟨_, rfl⟩⟩
    · simp at hq; subst hq
      have g11 : act.tmps[11]?.getD undef = .slice (some ⟨b, off, none⟩) xs.length cap := hI.has 6 11 rfl (hall ⟨6, .data⟩ (by simp) rfl)
      have g12 : act.tmps[12]?.getD undef = .int .i64 j := hI.has 7 12 rfl (hall ⟨7, .data⟩ (by simp) rfl)
      clear hI hall hnot hcl
      refine .inl ⟨wanted_none rfl, ?_⟩
      unfold Oper.wp
      go_simp
      all_goals exact ⟨_, rfl, rfl, ⟨_, rfl⟩⟩
    · simp at hq; subst hq
      have g13 : act.tmps[13]?.getD undef = .pointer (some ⟨b, off + j, none⟩) := hI.has 8 13 rfl (hall ⟨8, .data⟩ (by simp) rfl)
      clear hI hall hnot hcl
      refine .inl ⟨wanted_none rfl, ?_⟩
      unfold Oper.wp
      go_simp
      all_goals exact ⟨_, rfl, rfl, ⟨_, rfl⟩⟩
    · simp at hq; subst hq
      have g2 : act.tmps[2]?.getD undef = .pointer (some ⟨B', 0, none⟩) := hI.kept 2 (by kernel_rfl)
      clear hI hall hnot hcl
      refine .inl ⟨wanted_none rfl, ?_⟩
      unfold Oper.wp
      go_simp
      exact ⟨_, rfl, ⟨_, rfl, hm⟩, ⟨_, rfl⟩⟩
    · simp at hq; subst hq
      have g14 : act.tmps[14]?.getD undef = .float .f32 x := hI.has 9 14 rfl (hall ⟨9, .data⟩ (by simp) rfl)
      obtain ⟨r10, g15, h10a⟩ := hI.has 10 15 rfl (hall ⟨10, .data⟩ (by simp) rfl)
      clear hI hall hnot hcl
      refine .inl ⟨wanted_none rfl, ?_⟩
      unfold Oper.wp
      go_simp
      exact ⟨_, rfl, ⟨_, rfl, canonF rfl h10a⟩, by first | exact ⟨_, rfl⟩ | exact hdd _ _⟩
    · simp at hq; subst hq
      obtain ⟨r5, g10, h5a⟩ := hI.has 5 10 rfl (hall ⟨5, .data⟩ (by simp) rfl)
      obtain ⟨r11, g16, h11a⟩ := hI.has 11 16 rfl (hall ⟨11, .data⟩ (by simp) rfl)
      clear hI hall hnot hcl
      refine .inl ⟨wanted_none rfl, ?_⟩
      unfold Oper.wp
      go_simp
      refine (i_mulNumbers _ _ _).mono ?_
      rintro e w4 ⟨rfl, rfl⟩
      exact ⟨_, rfl, ⟨_, rfl, canonF h5a h11a⟩, by first | exact ⟨_, rfl⟩ | exact hdd _ _⟩
    · simp at hq; subst hq
      obtain ⟨r12, g17, h12a⟩ := hI.has 12 17 rfl (hall ⟨12, .data⟩ (by simp) rfl)
      clear hI hall hnot hcl
      refine .inl ⟨wanted_none rfl, ?_⟩
      unfold Oper.wp
      go_simp
      exact ⟨_, rfl, ⟨_, rfl, h12a⟩, ⟨_, rfl⟩⟩
    · simp at hq
  case hend =>
    intro listed act w3 hI hall
    obtain ⟨nn, rfl⟩ := hI.cls
    obtain ⟨rq, g4, hrq⟩ := hI.has 13 4 rfl (hall 13 (by decide))
    have hd := hI.defers
    clear hI hall
    go_wp2
    refine bodyPost_ret (v := .float .f32 rq) (by simp [results, Try.results72, g4, go_sem]) (by first | rfl | exact hd) ⟨rq, rfl, ?_, nn, rfl⟩
    rw [hrq, HX.out]
set_option maxHeartbeats 4000000 in
set_option maxRecDepth 100000 in
theorem i_listOf_spr (c0 c1 : Value) (q : Nat → Nat) (n : Nat) (w : World) (hn : n ≤ 1048576)
    (hat : ∀ k, k < n → ∀ wr, Below w.heap.size w wr → Calls Try.prog 72 #[.int .i64 k, c0, c1] wr fun e w' => ∃ r, e = .returned (.float .f32 r) ∧ canon .f32 r = q k ∧ Below wr.heap.size wr w') :
    Calls Try.prog 71 #[.int .i64 n, .func (.func 72) #[] #[c0, c1]] w fun e w' => ∃ (A : Option Addr) (xs : List Nat), e = .returned (.slice A n n) ∧ xs.length = n ∧ Fl w' A xs ∧ (∀ k, k < n → canon .f32 (xs.getD k 0) = q k) ∧ Below w.heap.size w w' := by
  have hmk := make_f32 n w hn
  have HA := Lib.hid hat; clear hat
  go_enter Try.func71, Try.ntmps71
  go_wp2
  go_loopw [11] (fun i wr => ∃ (k : Nat) (ys : List Nat), k ≤ n ∧ i = .int .i64 k ∧ FlNew w wr w.heap.size n k ys ∧ ys.length = n ∧ Hid (∀ j, j < k → canon .f32 (ys.getD j 0) = q j)) (fun i _ => n - (intOf i).toNat)
  case atStart => exact ⟨0, List.replicate n 0, Nat.zero_le _, rfl, FlNew.start .., by simp, Lib.hid (fun j hj => absurd hj (Nat.not_lt_zero j))⟩
  case round =>
    obtain ⟨k, ys, hk, rfl, hnew, hlen, hq⟩ := hrel
    clear hmk
    by_cases hlt : k < n
    · have hcall := HA.out k hlt _ hnew.1
      have HN := Lib.hid hnew; clear hnew
      have hwr : IntKind.i64.wrap ((k : Int) + 1) = (k : Int) + 1 := IntWalk.i64_in _ (by omega)
      go_wp2_with fail
      refine hcall.mono ?_
      rintro e w1 ⟨r, rfl, hr, b1⟩
      have hn1 := HN.out.below b1
      obtain ⟨hc2, hc3⟩ := hn1.2.2.2 k hlt
      rw [if_neg (by omega)] at hc2
      have hst := (hn1.congr (ys := ys.set k r) (fun j hj => by rw [getD_lset (by omega), if_neg (by omega)])).step hlt
      rw [getD_lset (by omega), if_pos rfl] at hst
      have HS := Lib.hid hst
      have HQ : Hid (∀ j, j < k + 1 → canon .f32 ((ys.set k r).getD j 0) = q j) := Lib.hid (fun j hj => by
        rw [getD_lset (by omega)]
        by_cases e : k = j
        · rw [if_pos e, hr, e]
        · rw [if_neg e]; exact hq.out j (by omega))
      clear hst hn1 hr b1 hcall
      go_wp2
      go_roundw
      case rel => exact ⟨k + 1, ys.set k r, by omega, by go_num, HS.out, by simp [hlen], HQ⟩
      case measure => simp [intOf]; omega
    · have HN := Lib.hid hnew; clear hnew
      have hkk : k = n := by omega
      subst hkk
      go_wp2
      go_ret
      exact ⟨_, ys, rfl, hlen, by subst hlen; exact HN.out.done (Nat.le_refl _), hq.out, HN.out.1⟩
set_option maxHeartbeats 4000000 in
set_option maxRecDepth 100000 in
theorem i_SpreadOfWinds (A : Option Addr) (cap : Nat) (xs : List Nat) (w : World) (h : Fl w A xs) (hn : xs.length ≤ 1048576) :
    Calls Try.prog 34 #[.slice A xs.length cap] w fun e w' => ∃ r, e = .returned (.tuple #[.float .f32 r, .bool (sprO xs)]) ∧ canon .f32 r = sprR xs ∧ Below w.heap.size w w' := by
  have HF := Lib.hid h; clear h
  have HB : ∀ o1, Hid (Below w.heap.size w (w.alloc o1)) := fun _ => Lib.hid ((Below.refl _ _).alloc (Nat.le_refl _) _)
  go_enter Try.func34, Try.ntmps34
  go_wp2_with fail
  refine (i_MeanOfWinds A cap xs _ (HF.out.below (HB _).out) hn).mono ?_
  rintro e w' ⟨rm, n1, rfl, hm, rfl⟩
  have HM := Lib.hid hm; clear hm
  obtain ⟨w2, hw2⟩ : ∃ w2, w2 = ((w.alloc (.cells #[.slice A xs.length cap] 41)).drewN n1).alloc (.cells #[.float .f32 rm] 22) := ⟨_, rfl⟩
  have K0 : Hid (BlkL w2 w.heap.size [.slice A xs.length cap]) := Lib.hid (by rw [hw2]; exact ((blkL_at w #[.slice A xs.length cap] 41 rfl).draws n1).alloc _)
  have K1 : Hid (BlkL w2 (w.heap.size + 1) [.float .f32 rm]) := Lib.hid (by rw [hw2]; exact blkL_at (World.drewN _ n1) #[.float .f32 rm] 22 (by show w.heap.size + 1 = (w.alloc _).heap.size; simp))
  have B2 : Hid (Below w.heap.size w w2) := Lib.hid (by rw [hw2]; exact (below_draws (HB _).out n1).alloc (by show w.heap.size ≤ (w.alloc _).heap.size; simp) _)
  cases v : mwO xs
  · have V := Lib.hid v; clear v
    go_wp2_with fail
    rw [← hw2]
    clear hw2
    go_wp2
    go_ret2
    exact ⟨_, by rw [(sprO_no V.out).1]; rfl, by rw [(sprO_no V.out).2]; exact canon_zero, B2.out⟩
  · have V := Lib.hid v; clear v
    have hwv : winV xs = true := by have := V.out; unfold mwO at this; rw [Bool.and_eq_true] at this; exact this.1
    have hmv : fin .f32 (meanV xs) = true := by have := V.out; unfold mwO at this; rw [Bool.and_eq_true] at this; exact this.2
    have HM' : Hid (canon .f32 rm = meanV xs) := Lib.hid (by rw [HM.out]; unfold mwR; rw [hwv]; exact onlyN_fin hmv)
    have HW := Lib.hid hwv
    clear hwv hmv
    go_wp2_with fail
    rw [← hw2]
    clear hw2
    refine (i_listOf_spr _ _ (sqAt xs (meanV xs)) xs.length _ hn (fun k hk wr hb => (i_sprAt w.heap.size (w.heap.size + 1) k rm _ A cap xs wr (HF.out.below (below_of B2.out B2.out.size hb)) ((K0.out.below hb).2 0 _ rfl).1 ((K1.out.below hb).2 0 _ rfl).1 HM'.out hk).mono fun e w' ⟨r, he, hr, n, hw⟩ => ⟨r, he, hr, by rw [hw]; exact below_draws (Below.refl _ _) _⟩)).mono ?_
    rintro e w3 ⟨Y, ys, rfl, hlen, hfl, hq, b3⟩
    have B3 : Hid (Below w.heap.size w w3) := Lib.hid (below_of B2.out B2.out.size b3)
    have HQ : Hid (meanV ys = fop .quo .f32 (sqK xs (meanV xs) xs.length) (cntN xs.length)) := Lib.hid (by unfold meanV; rw [hlen, sumK_sq hq _ (Nat.le_refl _)]; rfl)
    have HY := Lib.hid hfl
    have hl2 : ys.length ≤ 256 := by rw [hlen]; exact (winV_len HW.out).2
    have HE : Hid (∀ cp W, Fl W Y ys → Calls Try.prog 69 #[.slice Y xs.length cp] W fun e w' => ∃ r n, e = .returned (.float .f32 r) ∧ canon .f32 r = meanV ys ∧ w' = W.drewN n) := Lib.hid (by rw [← hlen]; exact fun cp W hh => i_evenMean Y cp ys W hh hl2)
    clear b3 hfl hq hl2
    go_wp2_with fail
    refine (HE.out _ _ HY.out).mono ?_
    rintro e w' ⟨r1, n2, rfl, h1, rfl⟩
    have H1 := Lib.hid h1; clear h1
    go_wp2_with fail
    refine (i_RootNumber _ _).mono ?_
    rintro e w' ⟨r2, n3, rfl, h2, rfl⟩
    have H2 : Hid (canon .f32 r2 = sprV xs) := Lib.hid (by rw [h2, H1.out, HQ.out]; rfl)
    clear h2
    go_wp2_with fail
    refine (i_onlyFiniteC _ _ _ H2.out).mono ?_
    rintro e w' ⟨r3, n4, rfl, h3, rfl⟩
    have H3 := Lib.hid h3; clear h3
    go_wp2
    go_ret2
    exact ⟨_, by unfold sprO; rw [HW.out]; rfl, by rw [H3.out]; unfold sprR; rw [HW.out]; rfl, by repeat (first | exact B3.out | refine below_draws ?_ _)⟩
set_option maxHeartbeats 4000000 in
theorem s_SpreadOfWinds (A : Option Addr) (cap : Nat) (xs : List Nat) (w : World) (h : Fl w A xs) (hn : xs.length ≤ 1048576) :
    Calls Try.prog 33 #[.slice A xs.length cap] w fun e w' => ∃ r, e = .returned (.tuple #[.float .f32 r, .bool (sprO xs)]) ∧ canon .f32 r = sprR xs ∧ Below w.heap.size w w' := by
  have HF := Lib.hid h; clear h
  go_enter Try.func33, Try.ntmps33
  go_wp2_with fail
  refine (s_l04Winds A cap xs _ HF.out hn).mono ?_
  rintro e w' ⟨rfl, n1, rfl⟩
  cases v : winV xs
  · go_wp2
    go_ret2
    exact ⟨_, by unfold sprO; rw [v]; rfl, by unfold sprR; rw [v]; exact canon_zero, below_draws (Below.refl _ _) _⟩
  · have V := Lib.hid v; clear v
    go_wp2_with fail
    refine (s_l04Mean A cap xs _ (HF.out.draws _) hn).mono ?_
    rintro e w' ⟨rm, n2, rfl, hm, rfl⟩
    have HM := Lib.hid hm; clear hm
    have HD : ∀ n, Hid (Fl (w.drewN n) A xs) := fun n => Lib.hid (HF.out.draws n)
    go_wp2_with fail
    go_loopw [5, 6, 7] (fun s i _ wr => ∃ k n r : Nat, k ≤ xs.length ∧ i = .int .i64 k ∧ s = .float .f32 r ∧ Hid (canon .f32 r = sqK xs (meanV xs) k) ∧ wr = w.drewN n) (fun _ i _ _ => xs.length - (intOf i).toNat)
    case atStart => exact ⟨0, _, 0, Nat.zero_le _, rfl, rfl, canon_zero, rfl⟩
    case round =>
      obtain ⟨k, n, r, hk, rfl, rfl, hr, rfl⟩ := hrel
      by_cases hlt : k < xs.length
      · obtain ⟨b, off, rfl, hb, hc⟩ := HF.out.at_ hlt
        have HS : Hid (sqK xs (meanV xs) (k + 1) = fop .add .f32 (sqK xs (meanV xs) k) (sqAt xs (meanV xs) k)) := rfl
        have HA : Hid (sqAt xs (meanV xs) k = fop .mul .f32 (fop .sub .f32 (canon .f32 (xs.getD k 0)) (meanV xs)) (fop .sub .f32 (canon .f32 (xs.getD k 0)) (meanV xs))) := rfl
        generalize xs.getD k 0 = x at hc HA
        go_wp2
        go_roundw
        case rel => exact ⟨k + 1, _, _, by omega, by go_num, rfl, Lib.hid (by rw [HS.out, HA.out]; exact canonF hr.out (canonF (canonF rfl HM.out) (canonF rfl HM.out))), rfl⟩
        case measure => simp [intOf]; omega
      · have hkk : k = xs.length := by omega
        subst hkk
        go_wp2_with fail
        refine (s_l01Sqrt _ _).mono ?_
        rintro e w' ⟨r2, n3, rfl, h2, rfl⟩
        have H2 : Hid (canon .f32 r2 = sprV xs) := Lib.hid (by rw [h2]; unfold sprV; rw [canonF hr.out rfl]; rfl)
        clear h2
        go_wp2_with fail
        refine (s_l02NumberC _ _ _ H2.out).mono ?_
        rintro e w' ⟨r3, n4, rfl, h3, rfl⟩
        have H3 := Lib.hid h3; clear h3
        go_wp2
        go_ret2
        exact ⟨_, by unfold sprO; rw [V.out]; rfl, by rw [H3.out]; unfold sprR; rw [V.out]; rfl, by repeat (first | exact Below.refl _ _ | refine below_draws ?_ _)⟩
end Go.Proofs.Yteligfbbofgonaa
