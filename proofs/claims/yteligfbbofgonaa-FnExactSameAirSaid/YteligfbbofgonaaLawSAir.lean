/- The law FnExactSameAir. No statement is proved here. -/
import Derived.Test.YteligfbbofgonaaAirL
namespace Go.Proofs.Yteligfbbofgonaa
open Go Go.RowKit
set_option maxHeartbeats 8000000 in
set_option maxRecDepth 100000 in
theorem law_FnExactSameAir (d h s k d' h' s' k' : Nat) (w : World) (hd0 : d < words .f32) (hh0 : h < words .f32) (hs0 : s < words .f32) (hk0 : k < words .f32) (hd1 : d' < words .f32) (hh1 : h' < words .f32) (hs1 : s' < words .f32) (hk1 : k' < words .f32) :
    Calls Try.prog 4 #[.agg #[.float .f32 d, .float .f32 h, .float .f32 s, .float .f32 k], .agg #[.float .f32 d', .float .f32 h', .float .f32 s', .float .f32 k']] w fun e w' => e = .returned (.bool true) ∧ Below w.heap.size w w' := by
  have HW : Hid (∀ x ∈ [d, h, s, k, d', h', s', k'], canon .f32 x < 4294967296) := Lib.hid (by
    intro x hx
    simp only [List.mem_cons, List.not_mem_nil, or_false] at hx
    rcases hx with rfl | rfl | rfl | rfl | rfl | rfl | rfl | rfl <;> exact canon_lt (by assumption))
  clear hd0 hh0 hs0 hk0 hd1 hh1 hs1 hk1
  obtain ⟨w0, hw0⟩ : ∃ w0, w0 = ((w.alloc (.cells #[.float .f32 d, .float .f32 h, .float .f32 s, .float .f32 k] 24)).alloc (.cells #[.float .f32 d', .float .f32 h', .float .f32 s', .float .f32 k'] 24)) := ⟨_, rfl⟩
  have HB0 : Below w.heap.size w w0 := by rw [hw0]; exact ((Below.refl _ _).alloc (Nat.le_refl _) _).alloc (by simp) _
  have K0 : Hid (BlkL w0 w.heap.size [.float .f32 d, .float .f32 h, .float .f32 s, .float .f32 k]) := Lib.hid (by rw [hw0]; exact (blkL_at w #[.float .f32 d, .float .f32 h, .float .f32 s, .float .f32 k] 24 rfl).alloc _)
  have K1 : Hid (BlkL w0 (w.heap.size + 1) [.float .f32 d', .float .f32 h', .float .f32 s', .float .f32 k']) := Lib.hid (by rw [hw0]; exact blkL_at (w.alloc (.cells #[.float .f32 d, .float .f32 h, .float .f32 s, .float .f32 k] 24)) #[.float .f32 d', .float .f32 h', .float .f32 s', .float .f32 k'] 24 (by simp))
  go_enter Try.func4, Try.ntmps4
  go_wp2_with fail
  rw [← hw0]
  clear hw0
  refine wp_region_inv3 (fun q0 v => match q0 with
    | 0 => v = .agg #[.float .f32 d, .float .f32 h, .float .f32 s, .float .f32 k]
    | 1 => v = .agg #[.float .f32 d, .float .f32 h, .float .f32 s, .float .f32 k]
    | 2 => v = .agg #[.float .f32 d', .float .f32 h', .float .f32 s', .float .f32 k']
    | 3 => v = .agg #[.float .f32 d', .float .f32 h', .float .f32 s', .float .f32 k']
    | 4 => v = .bool (airS d h s k d' h' s' k')
    | 5 => v = .bool (airS d h s k d' h' s' k')
    | _ => False) (fun _ ww => Below w0.heap.size w0 ww) (by kernel_rfl) (by kernel_rfl) ((Below.refl _ _).drew) ?hop ?hend
  case hop =>
    intro q o hq listed act w3 hI hnot hcl hall
    have hB := hI.cls
    obtain ⟨a0, a1, a2, a3⟩ := (K0.out.below (hB)).four
    obtain ⟨c0, c1, c2, c3⟩ := (K1.out.below (hB)).four
    rcases q with _ | _ | _ | _ | _ | _ | q
    · simp at hq; subst hq
      have g2 : act.tmps[2]?.getD undef = .pointer (some ⟨w.heap.size, 0, none⟩) := hI.kept 2 (by kernel_rfl)
      clear hI hall hnot hcl
      refine .inl ⟨wanted_none rfl, ?_⟩
      unfold Oper.wp
      go_simp
      all_goals exact ⟨_, rfl, rfl, hB⟩
    · simp at hq; subst hq
      have g7 : act.tmps[7]?.getD undef = .agg #[.float .f32 d, .float .f32 h, .float .f32 s, .float .f32 k] := hI.has 0 7 rfl (hall ⟨0, .data⟩ (by simp) rfl)
      clear hI hall hnot hcl
      refine .inl ⟨wanted_none rfl, ?_⟩
      unfold Oper.wp
      go_simp
      refine (l_toAir _ _ _ _ _).mono ?_
      rintro e w4 ⟨rfl, b4⟩
      exact ⟨_, rfl, rfl, below_of hB hB.size b4⟩
    · simp at hq; subst hq
      have g3 : act.tmps[3]?.getD undef = .pointer (some ⟨(w.heap.size + 1), 0, none⟩) := hI.kept 3 (by kernel_rfl)
      clear hI hall hnot hcl
      refine .inl ⟨wanted_none rfl, ?_⟩
      unfold Oper.wp
      go_simp
      all_goals exact ⟨_, rfl, rfl, hB⟩
    · simp at hq; subst hq
      have g9 : act.tmps[9]?.getD undef = .agg #[.float .f32 d', .float .f32 h', .float .f32 s', .float .f32 k'] := hI.has 2 9 rfl (hall ⟨2, .data⟩ (by simp) rfl)
      clear hI hall hnot hcl
      refine .inl ⟨wanted_none rfl, ?_⟩
      unfold Oper.wp
      go_simp
      refine (l_toAir _ _ _ _ _).mono ?_
      rintro e w4 ⟨rfl, b4⟩
      exact ⟨_, rfl, rfl, below_of hB hB.size b4⟩
    · simp at hq; subst hq
      have g8 : act.tmps[8]?.getD undef = .agg #[.float .f32 d, .float .f32 h, .float .f32 s, .float .f32 k] := hI.has 1 8 rfl (hall ⟨1, .data⟩ (by simp) rfl)
      have g10 : act.tmps[10]?.getD undef = .agg #[.float .f32 d', .float .f32 h', .float .f32 s', .float .f32 k'] := hI.has 3 10 rfl (hall ⟨3, .data⟩ (by simp) rfl)
      clear hI hall hnot hcl
      refine .inl ⟨wanted_none rfl, ?_⟩
      unfold Oper.wp
      go_simp
      refine (s_SameAir d h s k d' h' s' k' _ HW.out).mono ?_
      rintro e w4 ⟨rfl, b4⟩
      exact ⟨_, rfl, rfl, below_of hB hB.size b4⟩
    · simp at hq; subst hq
      have g11 : act.tmps[11]?.getD undef = .bool (airS d h s k d' h' s' k') := hI.has 4 11 rfl (hall ⟨4, .data⟩ (by simp) rfl)
      clear hI hall hnot hcl
      refine .inl ⟨wanted_none rfl, ?_⟩
      unfold Oper.wp
      go_simp
      all_goals exact ⟨_, rfl, rfl, hB⟩
    · simp at hq
  case hend =>
    intro listed act w3 hI hall
    have hB := hI.cls
    obtain ⟨a0, a1, a2, a3⟩ := (K0.out.below (hB)).four
    obtain ⟨c0, c1, c2, c3⟩ := (K1.out.below (hB)).four
    have g5 : act.tmps[5]?.getD undef = .bool (airS d h s k d' h' s' k') := hI.has 5 5 rfl (hall 5 (by decide))
    have g2 : act.tmps[2]?.getD undef = .pointer (some ⟨w.heap.size, 0, none⟩) := hI.kept 2 (by kernel_rfl)
    have g3 : act.tmps[3]?.getD undef = .pointer (some ⟨(w.heap.size + 1), 0, none⟩) := hI.kept 3 (by kernel_rfl)
    have hsz : act.tmps.size = 20 := hI.size.trans (by kernel_rfl)
    have hd := hI.defers
    obtain ⟨w1, hw1⟩ : ∃ w1, w1 = w3 := ⟨_, rfl⟩
    have HB1 := hB
    rw [← hw1] at HB1
    clear hI hall a0 a1 a2 a3 c0 c1 c2 c3 hB
    rw [← hw1]
    clear hw1
    obtain ⟨tt, dd⟩ := act
    simp only at g2 g3 g5 hsz hd
    subst hd
    have hl : tt = #[tt[0]?.getD undef, tt[1]?.getD undef, tt[2]?.getD undef, tt[3]?.getD undef, tt[4]?.getD undef, tt[5]?.getD undef, tt[6]?.getD undef, tt[7]?.getD undef, tt[8]?.getD undef, tt[9]?.getD undef, tt[10]?.getD undef, tt[11]?.getD undef, tt[12]?.getD undef, tt[13]?.getD undef, tt[14]?.getD undef, tt[15]?.getD undef, tt[16]?.getD undef, tt[17]?.getD undef, tt[18]?.getD undef, tt[19]?.getD undef] := (arr_lit hsz).trans rfl
    rw [g2, g3, g5] at hl
    clear g2 g3 g5 hsz
    generalize tt[0]?.getD undef = y0 at hl
    generalize tt[1]?.getD undef = y1 at hl
    generalize tt[4]?.getD undef = y4 at hl
    generalize tt[6]?.getD undef = y6 at hl
    generalize tt[7]?.getD undef = y7 at hl
    generalize tt[8]?.getD undef = y8 at hl
    generalize tt[9]?.getD undef = y9 at hl
    generalize tt[10]?.getD undef = y10 at hl
    generalize tt[11]?.getD undef = y11 at hl
    generalize tt[12]?.getD undef = y12 at hl
    generalize tt[13]?.getD undef = y13 at hl
    generalize tt[14]?.getD undef = y14 at hl
    generalize tt[15]?.getD undef = y15 at hl
    generalize tt[16]?.getD undef = y16 at hl
    generalize tt[17]?.getD undef = y17 at hl
    generalize tt[18]?.getD undef = y18 at hl
    generalize tt[19]?.getD undef = y19 at hl
    subst hl
    go_wp2_with fail
    refine wp_region_inv3 (fun q0 v => match q0 with
      | 0 => v = .agg #[.float .f32 d, .float .f32 h, .float .f32 s, .float .f32 k]
      | 1 => v = .agg #[.float .f32 d, .float .f32 h, .float .f32 s, .float .f32 k]
      | 2 => v = .agg #[.float .f32 d', .float .f32 h', .float .f32 s', .float .f32 k']
      | 3 => v = .agg #[.float .f32 d', .float .f32 h', .float .f32 s', .float .f32 k']
      | 4 => v = .bool (airS d h s k d' h' s' k')
      | 5 => v = .bool (airS d h s k d' h' s' k')
      | _ => False) (fun _ ww => Below w1.heap.size w1 ww) (by kernel_rfl) (by kernel_rfl) ((Below.refl _ _).drew) ?hop ?hend
    case hop =>
      intro q o hq listed act w3 hI hnot hcl hall
      have hB := hI.cls
      obtain ⟨a0, a1, a2, a3⟩ := (K0.out.below (below_of HB1 HB1.size hB)).four
      obtain ⟨c0, c1, c2, c3⟩ := (K1.out.below (below_of HB1 HB1.size hB)).four
      rcases q with _ | _ | _ | _ | _ | _ | q
      · simp at hq; subst hq
        have g2 : act.tmps[2]?.getD undef = .pointer (some ⟨w.heap.size, 0, none⟩) := hI.kept 2 (by kernel_rfl)
        clear hI hall hnot hcl
        refine .inl ⟨wanted_none rfl, ?_⟩
        unfold Oper.wp
        go_simp
        all_goals exact ⟨_, rfl, rfl, hB⟩
      · simp at hq; subst hq
        have g12 : act.tmps[12]?.getD undef = .agg #[.float .f32 d, .float .f32 h, .float .f32 s, .float .f32 k] := hI.has 0 12 rfl (hall ⟨0, .data⟩ (by simp) rfl)
        clear hI hall hnot hcl
        refine .inl ⟨wanted_none rfl, ?_⟩
        unfold Oper.wp
        go_simp
        refine (l_toAir _ _ _ _ _).mono ?_
        rintro e w4 ⟨rfl, b4⟩
        exact ⟨_, rfl, rfl, below_of hB hB.size b4⟩
      · simp at hq; subst hq
        have g3 : act.tmps[3]?.getD undef = .pointer (some ⟨(w.heap.size + 1), 0, none⟩) := hI.kept 3 (by kernel_rfl)
        clear hI hall hnot hcl
        refine .inl ⟨wanted_none rfl, ?_⟩
        unfold Oper.wp
        go_simp
        all_goals exact ⟨_, rfl, rfl, hB⟩
      · simp at hq; subst hq
        have g14 : act.tmps[14]?.getD undef = .agg #[.float .f32 d', .float .f32 h', .float .f32 s', .float .f32 k'] := hI.has 2 14 rfl (hall ⟨2, .data⟩ (by simp) rfl)
        clear hI hall hnot hcl
        refine .inl ⟨wanted_none rfl, ?_⟩
        unfold Oper.wp
        go_simp
        refine (l_toAir _ _ _ _ _).mono ?_
        rintro e w4 ⟨rfl, b4⟩
        exact ⟨_, rfl, rfl, below_of hB hB.size b4⟩
      · simp at hq; subst hq
        have g13 : act.tmps[13]?.getD undef = .agg #[.float .f32 d, .float .f32 h, .float .f32 s, .float .f32 k] := hI.has 1 13 rfl (hall ⟨1, .data⟩ (by simp) rfl)
        have g15 : act.tmps[15]?.getD undef = .agg #[.float .f32 d', .float .f32 h', .float .f32 s', .float .f32 k'] := hI.has 3 15 rfl (hall ⟨3, .data⟩ (by simp) rfl)
        clear hI hall hnot hcl
        refine .inl ⟨wanted_none rfl, ?_⟩
        unfold Oper.wp
        go_simp
        refine (i_SameAir d h s k d' h' s' k' _ HW.out).mono ?_
        rintro e w4 ⟨rfl, b4⟩
        exact ⟨_, rfl, rfl, below_of hB hB.size b4⟩
      · simp at hq; subst hq
        have g16 : act.tmps[16]?.getD undef = .bool (airS d h s k d' h' s' k') := hI.has 4 16 rfl (hall ⟨4, .data⟩ (by simp) rfl)
        clear hI hall hnot hcl
        refine .inl ⟨wanted_none rfl, ?_⟩
        unfold Oper.wp
        go_simp
        all_goals exact ⟨_, rfl, rfl, hB⟩
      · simp at hq
    case hend =>
      intro listed act w3 hI hall
      have hB := hI.cls
      obtain ⟨a0, a1, a2, a3⟩ := (K0.out.below (below_of HB1 HB1.size hB)).four
      obtain ⟨c0, c1, c2, c3⟩ := (K1.out.below (below_of HB1 HB1.size hB)).four
      have g6 : act.tmps[6]?.getD undef = .bool (airS d h s k d' h' s' k') := hI.has 5 6 rfl (hall 5 (by decide))
      have g5 : act.tmps[5]?.getD undef = .bool (airS d h s k d' h' s' k') := hI.kept 5 (by kernel_rfl)
      have hsz : act.tmps.size = 20 := hI.size.trans (by kernel_rfl)
      have hd := hI.defers
      clear hI hall a0 a1 a2 a3 c0 c1 c2 c3
      obtain ⟨tt, dd⟩ := act
      simp only at g5 g6 hsz hd
      subst hd
      have hl : tt = #[tt[0]?.getD undef, tt[1]?.getD undef, tt[2]?.getD undef, tt[3]?.getD undef, tt[4]?.getD undef, tt[5]?.getD undef, tt[6]?.getD undef, tt[7]?.getD undef, tt[8]?.getD undef, tt[9]?.getD undef, tt[10]?.getD undef, tt[11]?.getD undef, tt[12]?.getD undef, tt[13]?.getD undef, tt[14]?.getD undef, tt[15]?.getD undef, tt[16]?.getD undef, tt[17]?.getD undef, tt[18]?.getD undef, tt[19]?.getD undef] := (arr_lit hsz).trans rfl
      rw [g5, g6] at hl
      clear g5 g6 hsz
      generalize tt[0]?.getD undef = y0 at hl
      generalize tt[1]?.getD undef = y1 at hl
      generalize tt[2]?.getD undef = y2 at hl
      generalize tt[3]?.getD undef = y3 at hl
      generalize tt[4]?.getD undef = y4 at hl
      generalize tt[7]?.getD undef = y7 at hl
      generalize tt[8]?.getD undef = y8 at hl
      generalize tt[9]?.getD undef = y9 at hl
      generalize tt[10]?.getD undef = y10 at hl
      generalize tt[11]?.getD undef = y11 at hl
      generalize tt[12]?.getD undef = y12 at hl
      generalize tt[13]?.getD undef = y13 at hl
      generalize tt[14]?.getD undef = y14 at hl
      generalize tt[15]?.getD undef = y15 at hl
      generalize tt[16]?.getD undef = y16 at hl
      generalize tt[17]?.getD undef = y17 at hl
      generalize tt[18]?.getD undef = y18 at hl
      generalize tt[19]?.getD undef = y19 at hl
      subst hl
      go_wp2
      go_ret
      exact ⟨rfl, below_of (below_of HB0 HB0.size HB1) (by have := HB0.size; have := HB1.size; omega) hB⟩
end Go.Proofs.Yteligfbbofgonaa
