/- The power of a wind in a disc: the program. No statement is proved here. -/
import Derived.Test.YtpmjikchlofebaaDpI
import Derived.Test.YtpmjikchlofebaaApp
namespace Go.Proofs.Ytpmjikchlofebaa
open Go Go.RowKit
theorem amount_canon (x : Nat) : amount (canon .f32 x) = amount x := by
  cases h : fin .f32 x
  · unfold amount; rw [fin_canon, h]; rfl
  · rw [canon_of_not (isn_of_fin h)]
theorem exact_fin {b c : Nat} (h : canon .f32 b = c) (hf : fin .f32 c = true) : b = c := by
  have hn : isn .f32 b = false := by rw [← isn_canon, h]; exact isn_of_fin hf
  rw [← h, canon_of_not hn]
set_option maxHeartbeats 8000000 in
set_option maxRecDepth 100000 in
theorem i_speedAtD (d h s k z : Nat) (w : World) :
    Calls Try.prog 73 #[.agg #[.float .f32 d, .float .f32 h, .float .f32 s, .float .f32 k], .float .f32 z] w fun e w' => ∃ r, e = .returned (.tuple #[.float .f32 r, .bool (amount z && fin .f32 (spdV h s k z))]) ∧ canon .f32 r = spdQ h s k z ∧ Below w.heap.size w w' := by
  have HB : ∀ o1, Hid (Below w.heap.size w (w.alloc o1)) := fun _ => Lib.hid ((Below.refl _ _).alloc (Nat.le_refl _) _)
  have K0 : ∀ t, Hid (BlkL (w.alloc (.cells #[.float .f32 d, .float .f32 h, .float .f32 s, .float .f32 k] t)) w.heap.size [.float .f32 d, .float .f32 h, .float .f32 s, .float .f32 k]) := fun _ => Lib.hid (blkL_at w #[.float .f32 d, .float .f32 h, .float .f32 s, .float .f32 k] _ rfl)
  have k0 := fun t => ((K0 t).out.2 0 _ rfl).1
  have k1 := fun t => ((K0 t).out.2 1 _ rfl).1
  have k2 := fun t => ((K0 t).out.2 2 _ rfl).1
  have k3 := fun t => ((K0 t).out.2 3 _ rfl).1
  go_enter Try.func73, Try.ntmps73
  go_wp2_with fail
  refine (i_notAmount _ _).mono ?_
  rintro e w' ⟨n1, rfl, rfl⟩
  cases pz : amount z
  · go_wp2
    go_ret2
    exact ⟨_, by rw [pz]; rfl, by unfold spdQ; rw [pz]; exact canon_zero, by repeat (first | exact (HB _).out | refine below_draws ?_ _)⟩
  · have PZ := Lib.hid pz; clear pz
    go_wp2_with fail
    have hst : ∀ m, ∃ nn, { ((w.alloc (.cells #[.float .f32 d, .float .f32 h, .float .f32 s, .float .f32 k] 27)).drewN m) with drawn := ((w.alloc (.cells #[.float .f32 d, .float .f32 h, .float .f32 s, .float .f32 k] 27)).drewN m).drawn + 1 } = (w.alloc (.cells #[.float .f32 d, .float .f32 h, .float .f32 s, .float .f32 k] 27)).drewN nn := fun m => ⟨m + 1, rfl⟩
    have hdd : ∀ nn j, ∃ mm, ((w.alloc (.cells #[.float .f32 d, .float .f32 h, .float .f32 s, .float .f32 k] 27)).drewN nn).drewN j = (w.alloc (.cells #[.float .f32 d, .float .f32 h, .float .f32 s, .float .f32 k] 27)).drewN mm := fun nn j => ⟨nn + j, World.drewN_drewN ..⟩
    refine wp_region_inv3 (fun q0 v => match q0 with
      | 0 => v = .pointer (some ⟨w.heap.size, 2, none⟩)
      | 1 => v = .float .f32 s
      | 2 => v = .pointer (some ⟨w.heap.size, 3, none⟩)
      | 3 => v = .float .f32 k
      | 4 => ∃ r, v = .float .f32 r ∧ canon .f32 r = fop .quo .f32 (fop .sub .f32 (canon .f32 z) (canon .f32 h)) (fop .add .f32 (canon .f32 z) (canon .f32 h))
      | 5 => ∃ r, v = .float .f32 r ∧ canon .f32 r = fop .mul .f32 (canon .f32 k) (fop .quo .f32 (fop .sub .f32 (canon .f32 z) (canon .f32 h)) (fop .add .f32 (canon .f32 z) (canon .f32 h)))
      | 6 => ∃ r, v = .float .f32 r ∧ canon .f32 r = fop .add .f32 (canon .f32 1065353216) (fop .mul .f32 (canon .f32 k) (fop .quo .f32 (fop .sub .f32 (canon .f32 z) (canon .f32 h)) (fop .add .f32 (canon .f32 z) (canon .f32 h))))
      | 7 => ∃ r, v = .float .f32 r ∧ canon .f32 r = fop .mul .f32 (canon .f32 s) (fop .add .f32 (canon .f32 1065353216) (fop .mul .f32 (canon .f32 k) (fop .quo .f32 (fop .sub .f32 (canon .f32 z) (canon .f32 h)) (fop .add .f32 (canon .f32 z) (canon .f32 h)))))
      | 8 => ∃ r, v = .tuple #[.float .f32 r, .bool (fin .f32 (fop .mul .f32 (canon .f32 s) (fop .add .f32 (canon .f32 1065353216) (fop .mul .f32 (canon .f32 k) (fop .quo .f32 (fop .sub .f32 (canon .f32 z) (canon .f32 h)) (fop .add .f32 (canon .f32 z) (canon .f32 h)))))))] ∧ canon .f32 r = onlyN (fop .mul .f32 (canon .f32 s) (fop .add .f32 (canon .f32 1065353216) (fop .mul .f32 (canon .f32 k) (fop .quo .f32 (fop .sub .f32 (canon .f32 z) (canon .f32 h)) (fop .add .f32 (canon .f32 z) (canon .f32 h))))))
      | 9 => ∃ r, v = .float .f32 r ∧ canon .f32 r = onlyN (fop .mul .f32 (canon .f32 s) (fop .add .f32 (canon .f32 1065353216) (fop .mul .f32 (canon .f32 k) (fop .quo .f32 (fop .sub .f32 (canon .f32 z) (canon .f32 h)) (fop .add .f32 (canon .f32 z) (canon .f32 h))))))
      | 10 => v = .bool (fin .f32 (fop .mul .f32 (canon .f32 s) (fop .add .f32 (canon .f32 1065353216) (fop .mul .f32 (canon .f32 k) (fop .quo .f32 (fop .sub .f32 (canon .f32 z) (canon .f32 h)) (fop .add .f32 (canon .f32 z) (canon .f32 h)))))))
      | 11 => ∃ r, v = .float .f32 r ∧ canon .f32 r = onlyN (fop .mul .f32 (canon .f32 s) (fop .add .f32 (canon .f32 1065353216) (fop .mul .f32 (canon .f32 k) (fop .quo .f32 (fop .sub .f32 (canon .f32 z) (canon .f32 h)) (fop .add .f32 (canon .f32 z) (canon .f32 h))))))
      | 12 => v = .bool (fin .f32 (fop .mul .f32 (canon .f32 s) (fop .add .f32 (canon .f32 1065353216) (fop .mul .f32 (canon .f32 k) (fop .quo .f32 (fop .sub .f32 (canon .f32 z) (canon .f32 h)) (fop .add .f32 (canon .f32 z) (canon .f32 h)))))))
      | _ => False) (fun _ ww => ∃ nn, ww = (w.alloc (.cells #[.float .f32 d, .float .f32 h, .float .f32 s, .float .f32 k] 27)).drewN nn) (by kernel_rfl) (by kernel_rfl) (hst _) ?hop ?hend
    case hop =>
      intro q o hq listed act w3 hI hnot hcl hall
      obtain ⟨nn, rfl⟩ := hI.cls
      rcases q with _ | _ | _ | _ | _ | _ | _ | _ | _ | _ | _ | _ | _ | q
      · simp at hq; subst hq
        have g2 : act.tmps[2]?.getD undef = .pointer (some ⟨w.heap.size, 0, none⟩) := hI.kept 2 (by kernel_rfl)
        clear hI hall hnot hcl
        refine .inl ⟨wanted_none rfl, ?_⟩
        unfold Oper.wp
        go_simp
        all_goals exact ⟨_, rfl, rfl, ⟨_, rfl⟩⟩
      · simp at hq; subst hq
        have g18 : act.tmps[18]?.getD undef = .pointer (some ⟨w.heap.size, 2, none⟩) := hI.has 0 18 rfl (hall ⟨0, .data⟩ (by simp) rfl)
        clear hI hall hnot hcl
        refine .inl ⟨wanted_none rfl, ?_⟩
        unfold Oper.wp
        go_simp
        all_goals exact ⟨_, rfl, rfl, ⟨_, rfl⟩⟩
      · simp at hq; subst hq
        have g2 : act.tmps[2]?.getD undef = .pointer (some ⟨w.heap.size, 0, none⟩) := hI.kept 2 (by kernel_rfl)
        clear hI hall hnot hcl
        refine .inl ⟨wanted_none rfl, ?_⟩
        unfold Oper.wp
        go_simp
        all_goals exact ⟨_, rfl, rfl, ⟨_, rfl⟩⟩
      · simp at hq; subst hq
        have g20 : act.tmps[20]?.getD undef = .pointer (some ⟨w.heap.size, 3, none⟩) := hI.has 2 20 rfl (hall ⟨2, .data⟩ (by simp) rfl)
        clear hI hall hnot hcl
        refine .inl ⟨wanted_none rfl, ?_⟩
        unfold Oper.wp
        go_simp
        all_goals exact ⟨_, rfl, rfl, ⟨_, rfl⟩⟩
      · simp at hq; subst hq
        obtain ⟨x6, g6, hx6⟩ : ∃ x, act.tmps[6]?.getD undef = .float .f32 x ∧ canon .f32 x = fop .quo .f32 (fop .sub .f32 (canon .f32 z) (canon .f32 h)) (fop .add .f32 (canon .f32 z) (canon .f32 h)) := ⟨_, hI.kept 6 (by kernel_rfl), canonF (canonF rfl rfl) (canonF rfl rfl)⟩
        clear hI hall hnot hcl
        refine .inl ⟨wanted_none rfl, ?_⟩
        unfold Oper.wp
        go_simp
        exact ⟨_, rfl, ⟨_, rfl, hx6⟩, ⟨_, rfl⟩⟩
      · simp at hq; subst hq
        have g21 : act.tmps[21]?.getD undef = .float .f32 k := hI.has 3 21 rfl (hall ⟨3, .data⟩ (by simp) rfl)
        obtain ⟨r4, g22, h4a⟩ := hI.has 4 22 rfl (hall ⟨4, .data⟩ (by simp) rfl)
        clear hI hall hnot hcl
        refine .inl ⟨wanted_none rfl, ?_⟩
        unfold Oper.wp
        go_simp
        refine (i_mulNumbers _ _ _).mono ?_
        rintro e w4 ⟨rfl, rfl⟩
        exact ⟨_, rfl, ⟨_, rfl, canonF rfl h4a⟩, by first | exact ⟨_, rfl⟩ | exact hdd _ _⟩
      · simp at hq; subst hq
        obtain ⟨r5, g23, h5a⟩ := hI.has 5 23 rfl (hall ⟨5, .data⟩ (by simp) rfl)
        clear hI hall hnot hcl
        refine .inl ⟨wanted_none rfl, ?_⟩
        unfold Oper.wp
        go_simp
        exact ⟨_, rfl, ⟨_, rfl, canonF rfl h5a⟩, by first | exact ⟨_, rfl⟩ | exact hdd _ _⟩
      · simp at hq; subst hq
        have g19 : act.tmps[19]?.getD undef = .float .f32 s := hI.has 1 19 rfl (hall ⟨1, .data⟩ (by simp) rfl)
        obtain ⟨r6, g24, h6a⟩ := hI.has 6 24 rfl (hall ⟨6, .data⟩ (by simp) rfl)
        clear hI hall hnot hcl
        refine .inl ⟨wanted_none rfl, ?_⟩
        unfold Oper.wp
        go_simp
        exact ⟨_, rfl, ⟨_, rfl, canonF rfl h6a⟩, by first | exact ⟨_, rfl⟩ | exact hdd _ _⟩
      · simp at hq; subst hq
        obtain ⟨r7, g25, h7a⟩ := hI.has 7 25 rfl (hall ⟨7, .data⟩ (by simp) rfl)
        clear hI hall hnot hcl
        refine .inl ⟨wanted_none rfl, ?_⟩
        unfold Oper.wp
        go_simp
        refine (i_onlyFiniteC _ (fop .mul .f32 (canon .f32 s) (fop .add .f32 (canon .f32 1065353216) (fop .mul .f32 (canon .f32 k) (fop .quo .f32 (fop .sub .f32 (canon .f32 z) (canon .f32 h)) (fop .add .f32 (canon .f32 z) (canon .f32 h)))))) _ h7a).mono ?_
        rintro e w4 ⟨ro, no, rfl, hro, rfl⟩
        exact ⟨_, rfl, ⟨_, rfl, hro⟩, by first | exact ⟨_, rfl⟩ | exact hdd _ _⟩
      · simp at hq; subst hq
        obtain ⟨r8, g26, h8a⟩ := hI.has 8 26 rfl (hall ⟨8, .data⟩ (by simp) rfl)
        clear hI hall hnot hcl
        refine .inl ⟨wanted_none rfl, ?_⟩
        unfold Oper.wp
        go_simp
        exact ⟨_, rfl, ⟨_, rfl, h8a⟩, ⟨_, rfl⟩⟩
      · simp at hq; subst hq
        obtain ⟨r8, g26, h8a⟩ := hI.has 8 26 rfl (hall ⟨8, .data⟩ (by simp) rfl)
        clear hI hall hnot hcl
        refine .inl ⟨wanted_none rfl, ?_⟩
        unfold Oper.wp
        go_simp
        all_goals exact ⟨_, rfl, rfl, ⟨_, rfl⟩⟩
      · simp at hq; subst hq
        obtain ⟨r9, g27, h9a⟩ := hI.has 9 27 rfl (hall ⟨9, .data⟩ (by simp) rfl)
        clear hI hall hnot hcl
        refine .inl ⟨wanted_none rfl, ?_⟩
        unfold Oper.wp
        go_simp
        exact ⟨_, rfl, ⟨_, rfl, h9a⟩, ⟨_, rfl⟩⟩
      · simp at hq; subst hq
        have g28 : act.tmps[28]?.getD undef = .bool (fin .f32 (fop .mul .f32 (canon .f32 s) (fop .add .f32 (canon .f32 1065353216) (fop .mul .f32 (canon .f32 k) (fop .quo .f32 (fop .sub .f32 (canon .f32 z) (canon .f32 h)) (fop .add .f32 (canon .f32 z) (canon .f32 h))))))) := hI.has 10 28 rfl (hall ⟨10, .data⟩ (by simp) rfl)
        clear hI hall hnot hcl
        refine .inl ⟨wanted_none rfl, ?_⟩
        unfold Oper.wp
        go_simp
        all_goals exact ⟨_, rfl, rfl, ⟨_, rfl⟩⟩
      · simp at hq
    case hend =>
      intro listed act w3 hI hall
      obtain ⟨nn, rfl⟩ := hI.cls
      obtain ⟨rq, g4, hrq⟩ := hI.has 11 4 rfl (hall 11 (by decide))
      have g5 : act.tmps[5]?.getD undef = .bool (fin .f32 (fop .mul .f32 (canon .f32 s) (fop .add .f32 (canon .f32 1065353216) (fop .mul .f32 (canon .f32 k) (fop .quo .f32 (fop .sub .f32 (canon .f32 z) (canon .f32 h)) (fop .add .f32 (canon .f32 z) (canon .f32 h))))))) := hI.has 12 5 rfl (hall 12 (by decide))
      have hd := hI.defers
      clear hI hall
      go_wp2
      refine bodyPost_ret (v := .tuple #[.float .f32 rq, .bool (fin .f32 (spdV h s k z))]) (by simp [results, Try.results73, g4, g5, go_sem, spdV]) (by first | rfl | exact hd) ⟨rq, ?_, ?_, by repeat (first | exact (HB _).out | refine below_draws ?_ _)⟩
      · rw [PZ.out]; rfl
      · unfold spdQ; rw [PZ.out]; exact hrq
set_option maxHeartbeats 8000000 in
set_option maxRecDepth 100000 in
theorem i_powersAtHeights (d ha s sh ht rd n : Nat) (A : Option Addr) (cap : Nat) (hs : List Nat) (w : World) (h : Fl w A hs) (hl : hs.length = n) (hn : n ≤ 64) (hq : ∀ k, k < n → canon .f32 (hs.getD k 0) = dZ ht rd n k) :
    Calls Try.prog 72 #[.float .f32 d, .slice A hs.length cap, .func (.func 73) #[.agg #[.float .f32 d, .float .f32 ha, .float .f32 s, .float .f32 sh]] #[]] w fun e w' => ∃ A' c l bb, e = .returned (.tuple #[.slice A' l.length c, .bool bb]) ∧ (bb = true → l.length = n ∧ ∀ k, k < n → canon .f32 (l.getD k 0) = dP d ha s sh ht rd n k) ∧ (bb = false → ∃ k, k < n ∧ dK d ha s sh ht rd n k = false) ∧ Fl w' A' l ∧ Below w.heap.size w w' := by
  have HF := Lib.hid h; clear h
  have HQ := Lib.hid hq; clear hq
  subst hl
  obtain ⟨i0, hi, hz0, hz1, hz2⟩ := info_parts f32_info
  have hmk := run_make (P := Try.prog) w 32 22 i0 (.float .f32 0) (by kernel_rfl) hi hz0 .i64 .i64 0 hs.length (by omega) (by omega) (by rw [hz2]; omega) (by omega)
  rw [hz1] at hmk
  have hmk' : (Instr.makeSlice 32 (.int .i64 0) (.int .i64 hs.length)).run Try.prog w = .ok (.slice (some ⟨w.heap.size, 0, none⟩) 0 hs.length) (w.alloc (.cells (madeCells #[.float .f32 0] hs.length) 22)) := by
    rw [hmk]; simp [Value.cells]
  clear hmk
  obtain ⟨w2, hw2⟩ : ∃ z, z = w.alloc (.cells (madeCells #[.float .f32 0] hs.length) 22) := ⟨_, rfl⟩
  have HST : Hid (Gr w2 w.heap.size (.slice (some ⟨w.heap.size, 0, none⟩) 0 hs.length) []) := Lib.hid (by rw [hw2]; exact Gr.made _ _ _ _ (Nat.le_refl _) (by unfold maxLen; omega) (by simp [madeCells]))
  have HB2 : Hid (Below w.heap.size w w2) := Lib.hid (by rw [hw2]; exact (Below.refl _ _).alloc (Nat.le_refl _) _)
  rw [← hw2] at hmk'
  clear hw2
  go_enter Try.func72, Try.ntmps72
  go_wp2
  clear hmk'
  go_loopw [8, 20] (fun v i wr => ∃ (k : Nat) (ys : List Nat), k ≤ hs.length ∧ i = .int .i64 k ∧ Hid (Gr wr w.heap.size v ys) ∧ Hid (ys.length = k) ∧ Hid (∀ j, j < k → canon .f32 (ys.getD j 0) = dP d ha s sh ht rd hs.length j) ∧ Hid (Below w.heap.size w wr)) (fun _ i _ => hs.length - (intOf i).toNat)
  case atStart => exact ⟨0, [], Nat.zero_le _, rfl, HST, Lib.hid rfl, Lib.hid (fun j hj => absurd hj (Nat.not_lt_zero j)), HB2⟩
  case round =>
    obtain ⟨k, ys, hk, rfl, HG, HL, HP, HBR⟩ := hrel
    by_cases hlt : k < hs.length
    · obtain ⟨b, off, rfl, -, hc⟩ := (HF.out.below HBR.out).at_ hlt
      have HX : Hid (canon .f32 (hs.getD k 0) = dZ ht rd hs.length k) := Lib.hid (HQ.out k hlt)
      have HLT := Lib.hid hlt
      generalize hs.getD k 0 = x at hc HX
      have ex : amount x = amount (dZ ht rd hs.length k) := by rw [← amount_canon, HX.out]
      have ev : spdV ha s sh x = dV ha s sh ht rd hs.length k := spdV_canon (by rw [HX.out, canon_dZ])
      go_wp2_with fail
      refine (i_speedAtD d ha s sh x _).mono ?_
      rintro e w3 ⟨r, rfl, hr, b3⟩
      unfold spdQ at hr
      rw [ex, ev] at hr
      rw [ex, ev]
      have HG3 := Lib.hid (HG.out.below b3)
      have HB3 : Hid (Below w.heap.size w w3) := Lib.hid (below_of HBR.out HBR.out.size b3)
      have HR := Lib.hid hr
      clear ex ev b3 hr hc
      have HKD : Hid (dK d ha s sh ht rd hs.length k = ((amount (dZ ht rd hs.length k) && fin .f32 (dV ha s sh ht rd hs.length k)) && powO d (dV ha s sh ht rd hs.length k))) := Lib.hid (by unfold dK; rw [Bool.and_assoc])
      have HBO : Hid ((amount (dZ ht rd hs.length k) && fin .f32 (dV ha s sh ht rd hs.length k)) = true → r = dV ha s sh ht rd hs.length k) := Lib.hid (fun hb => by
        rw [Bool.and_eq_true] at hb
        have h1 := HR.out
        rw [hb.1, if_pos rfl] at h1
        unfold onlyN at h1
        rw [hb.2, if_pos rfl] at h1
        exact exact_fin h1 hb.2)
      generalize (amount (dZ ht rd hs.length k) && fin .f32 (dV ha s sh ht rd hs.length k)) = b1 at HKD HBO ⊢
      clear HR
      go_wp2_with fail
      refine (i_AirPower d r _).mono ?_
      rintro e w4 ⟨r2, n4, he, hr2, hw4⟩
      subst he
      have HG4 : Hid (Gr w4 w.heap.size _ ys) := Lib.hid (by rw [hw4]; exact HG3.out)
      have HB4 : Hid (Below w.heap.size w w4) := Lib.hid (by rw [hw4]; exact below_draws HB3.out _)
      have HR2 := Lib.hid hr2
      clear hw4 hr2 HG3 HB3
      cases b1
      · have HN : Hid (∃ k, k < hs.length ∧ dK d ha s sh ht rd hs.length k = false) := Lib.hid ⟨k, HLT.out, by rw [HKD.out]; rfl⟩
        clear HBO HKD
        generalize powO d r = b2
        cases b2
        all_goals
          go_wp2
          go_ret2
          exact ⟨none, 0, [], false, rfl, fun h => (Bool.noConfusion h), fun _ => HN.out, .inl rfl, HB4.out⟩
      · have er := HBO.out rfl
        subst er
        clear HBO
        have HB2' : Hid (powO d (dV ha s sh ht rd hs.length k) = true → canon .f32 r2 = dP d ha s sh ht rd hs.length k) := Lib.hid (fun hb => by
          have h1 := HR2.out
          unfold powO at hb
          simp only [Bool.and_eq_true] at hb
          unfold powR onlyN at h1
          rw [hb.1, hb.2.1, hb.2.2] at h1
          exact h1)
        clear HR2
        generalize powO d (dV ha s sh ht rd hs.length k) = b2 at HKD HB2' ⊢
        cases b2
        · have HN : Hid (∃ k, k < hs.length ∧ dK d ha s sh ht rd hs.length k = false) := Lib.hid ⟨k, HLT.out, by rw [HKD.out]; rfl⟩
          go_wp2
          go_ret2
          exact ⟨none, 0, [], false, rfl, fun h => (Bool.noConfusion h), fun _ => HN.out, .inl rfl, HB4.out⟩
        · have HPK := Lib.hid (HB2'.out rfl)
          clear HB2' HKD
          have hown := HG4.out
          unfold Gr at hown
          go_wp2_with (first
            | (at_builtin; refine wpList_append_own _ rfl _ _ 32 rfl w.heap.size 22 i0 (.float .f32 0) 1 4 Try.underlying32 hi hz0 hz1 hz2 rfl (by decide) _ _ _ rfl (hown.alloc _) ⟨_, 0, none⟩ 1 1 [.float .f32 r2] rfl rfl ?c1 ?c2 ?c3 ?c4 ?c5 ?_)
            | fail)
          case c1 =>
            intro j u hj
            match j, hj with
            | 0, hj => simp at hj; subst hj; simp [Addr.add]
          case c2 => intro u hu; simp at hu; subst hu; rfl
          case c3 => have := HL.out; unfold maxLen; omega
          case c4 => have := HL.out; omega
          case c5 => have := HB4.out.size; simp; omega
          · intro v' w5 hown' hgrow _
            obtain ⟨g2, b2⟩ := Gr.next HG4.out HB4.out (Nat.le_refl _) hown' hgrow
            have HG5 := Lib.hid g2
            have HB5 := Lib.hid b2
            have HP5 : Hid (∀ j, j < k + 1 → canon .f32 ((ys ++ [r2]).getD j 0) = dP d ha s sh ht rd hs.length j) := Lib.hid (fun j hj => by
              rw [getD_snoc _ _ _ (by rw [HL.out]; exact hj), HL.out]
              split
              · rename_i e; rw [HPK.out, e]
              · exact HP.out j (by omega))
            have HL5 : Hid ((ys ++ [r2]).length = k + 1) := Lib.hid (by simp [HL.out])
            clear g2 b2 hown hown' hgrow
            go_wp2
            go_roundw
            case rel => exact ⟨k + 1, _, by have := HLT.out; omega, by go_num, HG5, HL5, HP5, HB5⟩
            case measure => have := HLT.out; simp [intOf]; omega
    · have hkk : k = hs.length := by omega
      obtain ⟨A', cap', g, rfl, ho⟩ := HG.out.own
      have HFL := Lib.hid ho.fl
      have HP2 : Hid (ys.length = hs.length ∧ ∀ j, j < hs.length → canon .f32 (ys.getD j 0) = dP d ha s sh ht rd hs.length j) := Lib.hid ⟨by rw [HL.out, hkk], fun j hj => HP.out j (by omega)⟩
      clear ho
      go_wp2
      go_ret2
      exact ⟨A', cap', ys, true, rfl, fun _ => HP2.out, fun h => (Bool.noConfusion h), HFL.out, HBR.out⟩
end Go.Proofs.Ytpmjikchlofebaa
