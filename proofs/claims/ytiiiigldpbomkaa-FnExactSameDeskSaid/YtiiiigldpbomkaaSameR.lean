/- What roses are the same: both sides. No statement is proved here. -/
import Derived.Test.YtiiiigldpbomkaaRose
import Derived.Test.YtiiiigldpbomkaaApp
import Derived.Test.YtiiiigldpbomkaaInv4
namespace Go.Proofs.Ytiiiigldpbomkaa
open Go Go.RowKit
def samL1 (xs ys : List Nat) : Bool := decide (xs.length = ys.length) && alls (fun k => samN1 (xs.getD k 0) (ys.getD k 0)) xs.length
def rosS (a l a' l' : List Nat) : Bool := samL1 a a' && samL1 l l'
theorem word_at {xs : List Nat} (h : ∀ x ∈ xs, x < words .f32) {k : Nat} (hk : k < xs.length) : canon .f32 (xs.getD k 0) < 4294967296 := by
  have : xs.getD k 0 ∈ xs := by rw [List.getD_eq_getElem?_getD, List.getElem?_eq_getElem hk]; exact List.getElem_mem hk
  exact canon_lt (h _ this)
set_option maxHeartbeats 8000000 in
set_option maxRecDepth 100000 in
theorem s_l01SameAllR (A L : Option Addr) (cap cap' : Nat) (xs ys : List Nat) (w : World) (h : Fl w A xs) (h' : Fl w L ys) (hn : xs.length ≤ 1048576) (hn' : ys.length ≤ 1048576) (hx : ∀ x ∈ xs, x < words .f32) (hy : ∀ x ∈ ys, x < words .f32) :
    Calls Try.prog 179 #[.slice A xs.length cap, .slice L ys.length cap'] w fun e w' => e = .returned (.bool (samL1 xs ys)) ∧ ∃ n, w' = w.drewN n := by
  have HF := Lib.hid h; clear h
  have HG := Lib.hid h'; clear h'
  have HX := Lib.hid hx; clear hx
  have HY := Lib.hid hy; clear hy
  have hst : ∀ m, ∃ nn, { (w.drewN m) with drawn := (w.drewN m).drawn + 1 } = w.drewN nn := fun m => ⟨m + 1, rfl⟩
  by_cases hl : xs.length = ys.length
  · have e1 : ((xs.length : Int) != (ys.length : Int)) = false := by simp; omega
    have HV : Hid (samL1 xs ys = alls (fun k => samN1 (xs.getD k 0) (ys.getD k 0)) xs.length) := Lib.hid (by unfold samL1; rw [decide_eq_true hl, Bool.true_and])
    have hle : xs.length ≤ ys.length := by omega
    have HL := Lib.hid hl; clear hl
    go_enter Try.func179, Try.ntmps179
    go_wp2
    go_loopw [5] (fun i wr => ∃ k n : Nat, k ≤ xs.length ∧ i = .int .i64 k ∧ Hid (alls (fun k => samN1 (xs.getD k 0) (ys.getD k 0)) k = true) ∧ wr = w.drewN n) (fun i _ => xs.length - (intOf i).toNat)
    case atStart => exact ⟨0, 0, Nat.zero_le _, rfl, rfl, rfl⟩
    case round =>
      obtain ⟨k, n, hk, rfl, hr, rfl⟩ := hrel
      clear e1
      by_cases hlt : k < xs.length
      · have hlt2 : k < ys.length := by omega
        obtain ⟨b, off, rfl, hb, hc⟩ := HF.out.at_ hlt
        obtain ⟨b', off', rfl, hb', hc'⟩ := HG.out.at_ hlt2
        have AX := Lib.hid (word_at HX.out hlt)
        have BX := Lib.hid (word_at HY.out hlt2)
        have HA : Hid (alls (fun k => samN1 (xs.getD k 0) (ys.getD k 0)) (k + 1) = samN1 (xs.getD k 0) (ys.getD k 0)) := Lib.hid (by show (alls _ k && _) = _; rw [hr.out]; rfl)
        have HNo : Hid (alls (fun k => samN1 (xs.getD k 0) (ys.getD k 0)) (k + 1) = false → samL1 xs ys = false) := Lib.hid (fun h => by rw [HV.out]; exact alls_no h (by omega))
        obtain ⟨x, hx⟩ : ∃ x, x = xs.getD k 0 := ⟨_, rfl⟩
        obtain ⟨y, hy⟩ : ∃ x, x = ys.getD k 0 := ⟨_, rfl⟩
        rw [← hx] at hc AX
        rw [← hy] at hc' BX
        have HXX := Lib.hid hx; clear hx hb
        have HYY := Lib.hid hy; clear hy hb'
        cases px : decide (canon .f32 x = canon .f32 y)
        · have PX := Lib.hid px
          have HN : Hid (samL1 xs ys = false) := Lib.hid (HNo.out (by rw [HA.out, ← HXX.out, ← HYY.out]; exact px))
          clear px
          go_wp2_with fail
          refine wp_region_inv3 (fun q0 v => match q0 with
            | 0 => v = .slice (some ⟨b, off, none⟩) xs.length cap
            | 1 => v = .int .i64 k
            | 2 => v = .pointer (some ⟨b, off + k, none⟩)
            | 3 => v = .float .f32 x
            | 4 => v = .slice (some ⟨b', off', none⟩) ys.length cap'
            | 5 => v = .int .i64 k
            | 6 => v = .pointer (some ⟨b', off' + k, none⟩)
            | 7 => v = .float .f32 y
            | 8 => v = .bool false
            | 9 => v = .bool true
            | _ => False) (fun _ ww => ∃ nn, ww = w.drewN nn) (by kernel_rfl) (by kernel_rfl) (hst _) ?hop ?hend
          case hop =>
            intro q o hq listed act w3 hI hnot hcl hall
            obtain ⟨nn, rfl⟩ := hI.cls
            rcases q with _ | _ | _ | _ | _ | _ | _ | _ | _ | _ | q
            · simp at hq; subst hq
              have g0 : act.tmps[0]?.getD undef = .slice (some ⟨b, off, none⟩) xs.length cap := hI.kept 0 (by kernel_rfl)
              clear hI hall hnot hcl
              refine .inl ⟨wanted_none rfl, ?_⟩
              unfold Oper.wp
              go_simp
              all_goals exact ⟨_, rfl, rfl, ⟨_, rfl⟩⟩
            · simp at hq; subst hq
              have g5 : act.tmps[5]?.getD undef = .int .i64 k := hI.kept 5 (by kernel_rfl)
              clear hI hall hnot hcl
              refine .inl ⟨wanted_none rfl, ?_⟩
              unfold Oper.wp
              go_simp
              all_goals exact ⟨_, rfl, rfl, ⟨_, rfl⟩⟩
            · simp at hq; subst hq
              have g17 : act.tmps[17]?.getD undef = .slice (some ⟨b, off, none⟩) xs.length cap := hI.has 0 17 rfl (hall ⟨0, .data⟩ (by simp) rfl)
              have g18 : act.tmps[18]?.getD undef = .int .i64 k := hI.has 1 18 rfl (hall ⟨1, .data⟩ (by simp) rfl)
              clear hI hall hnot hcl
              refine .inl ⟨wanted_none rfl, ?_⟩
              unfold Oper.wp
              go_simp
              all_goals exact ⟨_, rfl, rfl, ⟨_, rfl⟩⟩
            · simp at hq; subst hq
              have g19 : act.tmps[19]?.getD undef = .pointer (some ⟨b, off + k, none⟩) := hI.has 2 19 rfl (hall ⟨2, .data⟩ (by simp) rfl)
              clear hI hall hnot hcl
              refine .inl ⟨wanted_none rfl, ?_⟩
              unfold Oper.wp
              go_simp
              all_goals exact ⟨_, rfl, rfl, ⟨_, rfl⟩⟩
            · simp at hq; subst hq
              have g1 : act.tmps[1]?.getD undef = .slice (some ⟨b', off', none⟩) ys.length cap' := hI.kept 1 (by kernel_rfl)
              clear hI hall hnot hcl
              refine .inl ⟨wanted_none rfl, ?_⟩
              unfold Oper.wp
              go_simp
              all_goals exact ⟨_, rfl, rfl, ⟨_, rfl⟩⟩
            · simp at hq; subst hq
              have g5 : act.tmps[5]?.getD undef = .int .i64 k := hI.kept 5 (by kernel_rfl)
              clear hI hall hnot hcl
              refine .inl ⟨wanted_none rfl, ?_⟩
              unfold Oper.wp
              go_simp
              all_goals exact ⟨_, rfl, rfl, ⟨_, rfl⟩⟩
            · simp at hq; subst hq
              have g21 : act.tmps[21]?.getD undef = .slice (some ⟨b', off', none⟩) ys.length cap' := hI.has 4 21 rfl (hall ⟨4, .data⟩ (by simp) rfl)
              have g22 : act.tmps[22]?.getD undef = .int .i64 k := hI.has 5 22 rfl (hall ⟨5, .data⟩ (by simp) rfl)
              clear hI hall hnot hcl
              refine .inl ⟨wanted_none rfl, ?_⟩
              unfold Oper.wp
              go_simp
              all_goals exact ⟨_, rfl, rfl, ⟨_, rfl⟩⟩
            · simp at hq; subst hq
              have g23 : act.tmps[23]?.getD undef = .pointer (some ⟨b', off' + k, none⟩) := hI.has 6 23 rfl (hall ⟨6, .data⟩ (by simp) rfl)
              clear hI hall hnot hcl
              refine .inl ⟨wanted_none rfl, ?_⟩
              unfold Oper.wp
              go_simp
              all_goals exact ⟨_, rfl, rfl, ⟨_, rfl⟩⟩
            · simp at hq; subst hq
              have g20 : act.tmps[20]?.getD undef = .float .f32 x := hI.has 3 20 rfl (hall ⟨3, .data⟩ (by simp) rfl)
              have g24 : act.tmps[24]?.getD undef = .float .f32 y := hI.has 7 24 rfl (hall ⟨7, .data⟩ (by simp) rfl)
              clear hI hall hnot hcl
              refine .inl ⟨wanted_none rfl, ?_⟩
              unfold Oper.wp
              go_simp
              refine (s_l01Same _ _ _ AX.out BX.out).mono ?_
              rintro e w4 ⟨rfl, rfl⟩
              rw [PX.out]
              exact ⟨_, rfl, rfl, ⟨_, rfl⟩⟩
            · simp at hq; subst hq
              have g25 : act.tmps[25]?.getD undef = .bool false := hI.has 8 25 rfl (hall ⟨8, .data⟩ (by simp) rfl)
              clear hI hall hnot hcl
              refine .inl ⟨wanted_none rfl, ?_⟩
              unfold Oper.wp
              go_simp
              all_goals exact ⟨_, rfl, rfl, ⟨_, rfl⟩⟩
            · simp at hq
          case hend =>
            intro listed act w3 hI hall
            obtain ⟨nn, rfl⟩ := hI.cls
            have g26 : act.tmps[26]?.getD undef = .bool true := hI.has 9 26 rfl (hall 9 (by decide))
            have g5 : act.tmps[5]?.getD undef = .int .i64 k := hI.kept 5 (by kernel_rfl)
            have g0 := hI.kept 0 (by kernel_rfl)
            conv at g0 => rhs; whnf
            have g1 := hI.kept 1 (by kernel_rfl)
            conv at g1 => rhs; whnf
            have g2 : act.tmps[2]?.getD undef = undef := hI.kept 2 (by kernel_rfl)
            have g3 : act.tmps[3]?.getD undef = undef := hI.kept 3 (by kernel_rfl)
            have g6 := hI.kept 6 (by kernel_rfl)
            conv at g6 => rhs; whnf
            have g7 := hI.kept 7 (by kernel_rfl)
            conv at g7 => rhs; whnf
            have g8 := hI.kept 8 (by kernel_rfl)
            conv at g8 => rhs; whnf
            have g9 := hI.kept 9 (by kernel_rfl)
            conv at g9 => rhs; whnf
            have g10 := hI.kept 10 (by kernel_rfl)
            conv at g10 => rhs; whnf
            have hsz : act.tmps.size = 27 := hI.size.trans (by kernel_rfl)
            have hd := hI.defers
            clear hI hall
            obtain ⟨tt, dd⟩ := act
            simp only at g0 g1 g2 g3 g5 g6 g7 g8 g9 g10 g26 hsz hd
            subst hd
            have hl : tt = #[tt[0]?.getD undef, tt[1]?.getD undef, tt[2]?.getD undef, tt[3]?.getD undef, tt[4]?.getD undef, tt[5]?.getD undef, tt[6]?.getD undef, tt[7]?.getD undef, tt[8]?.getD undef, tt[9]?.getD undef, tt[10]?.getD undef, tt[11]?.getD undef, tt[12]?.getD undef, tt[13]?.getD undef, tt[14]?.getD undef, tt[15]?.getD undef, tt[16]?.getD undef, tt[17]?.getD undef, tt[18]?.getD undef, tt[19]?.getD undef, tt[20]?.getD undef, tt[21]?.getD undef, tt[22]?.getD undef, tt[23]?.getD undef, tt[24]?.getD undef, tt[25]?.getD undef, tt[26]?.getD undef] := (arr_lit hsz).trans rfl
            rw [g0, g1, g2, g3, g5, g6, g7, g8, g9, g10, g26] at hl
            clear g0 g1 g2 g3 g5 g6 g7 g8 g9 g10 g26 hsz
            generalize tt[4]?.getD undef = y4 at hl
            generalize tt[11]?.getD undef = y11 at hl
            generalize tt[12]?.getD undef = y12 at hl
            generalize tt[13]?.getD undef = y13 at hl
            generalize tt[14]?.getD undef = y14 at hl
            generalize tt[15]?.getD undef = y15 at hl
            generalize tt[16]?.getD undef = y16 at hl
            generalize tt[17]?.getD undef = y17 at hl
            generalize tt[18]?.getD undef = y18 at hl
            generalize tt[19]?.getD undef = y19 at hl
            generalize tt[20]?.getD undef = y20 at hl
            generalize tt[21]?.getD undef = y21 at hl
            generalize tt[22]?.getD undef = y22 at hl
            generalize tt[23]?.getD undef = y23 at hl
            generalize tt[24]?.getD undef = y24 at hl
            generalize tt[25]?.getD undef = y25 at hl
            subst hl
            go_wp2
            go_ret
            exact ⟨by rw [HN.out]; rfl, nn, rfl⟩
        · have PX := Lib.hid px
          have HG2 : Hid (alls (fun k => samN1 (xs.getD k 0) (ys.getD k 0)) (k + 1) = true) := Lib.hid (by rw [HA.out, ← HXX.out, ← HYY.out]; exact px)
          clear px
          go_wp2_with fail
          refine wp_region_inv3 (fun q0 v => match q0 with
            | 0 => v = .slice (some ⟨b, off, none⟩) xs.length cap
            | 1 => v = .int .i64 k
            | 2 => v = .pointer (some ⟨b, off + k, none⟩)
            | 3 => v = .float .f32 x
            | 4 => v = .slice (some ⟨b', off', none⟩) ys.length cap'
            | 5 => v = .int .i64 k
            | 6 => v = .pointer (some ⟨b', off' + k, none⟩)
            | 7 => v = .float .f32 y
            | 8 => v = .bool true
            | 9 => v = .bool false
            | _ => False) (fun _ ww => ∃ nn, ww = w.drewN nn) (by kernel_rfl) (by kernel_rfl) (hst _) ?hop ?hend
          case hop =>
            intro q o hq listed act w3 hI hnot hcl hall
            obtain ⟨nn, rfl⟩ := hI.cls
            rcases q with _ | _ | _ | _ | _ | _ | _ | _ | _ | _ | q
            · simp at hq; subst hq
              have g0 : act.tmps[0]?.getD undef = .slice (some ⟨b, off, none⟩) xs.length cap := hI.kept 0 (by kernel_rfl)
              clear hI hall hnot hcl
              refine .inl ⟨wanted_none rfl, ?_⟩
              unfold Oper.wp
              go_simp
              all_goals exact ⟨_, rfl, rfl, ⟨_, rfl⟩⟩
            · simp at hq; subst hq
              have g5 : act.tmps[5]?.getD undef = .int .i64 k := hI.kept 5 (by kernel_rfl)
              clear hI hall hnot hcl
              refine .inl ⟨wanted_none rfl, ?_⟩
              unfold Oper.wp
              go_simp
              all_goals exact ⟨_, rfl, rfl, ⟨_, rfl⟩⟩
            · simp at hq; subst hq
              have g17 : act.tmps[17]?.getD undef = .slice (some ⟨b, off, none⟩) xs.length cap := hI.has 0 17 rfl (hall ⟨0, .data⟩ (by simp) rfl)
              have g18 : act.tmps[18]?.getD undef = .int .i64 k := hI.has 1 18 rfl (hall ⟨1, .data⟩ (by simp) rfl)
              clear hI hall hnot hcl
              refine .inl ⟨wanted_none rfl, ?_⟩
              unfold Oper.wp
              go_simp
              all_goals exact ⟨_, rfl, rfl, ⟨_, rfl⟩⟩
            · simp at hq; subst hq
              have g19 : act.tmps[19]?.getD undef = .pointer (some ⟨b, off + k, none⟩) := hI.has 2 19 rfl (hall ⟨2, .data⟩ (by simp) rfl)
              clear hI hall hnot hcl
              refine .inl ⟨wanted_none rfl, ?_⟩
              unfold Oper.wp
              go_simp
              all_goals exact ⟨_, rfl, rfl, ⟨_, rfl⟩⟩
            · simp at hq; subst hq
              have g1 : act.tmps[1]?.getD undef = .slice (some ⟨b', off', none⟩) ys.length cap' := hI.kept 1 (by kernel_rfl)
              clear hI hall hnot hcl
              refine .inl ⟨wanted_none rfl, ?_⟩
              unfold Oper.wp
              go_simp
              all_goals exact ⟨_, rfl, rfl, ⟨_, rfl⟩⟩
            · simp at hq; subst hq
              have g5 : act.tmps[5]?.getD undef = .int .i64 k := hI.kept 5 (by kernel_rfl)
              clear hI hall hnot hcl
              refine .inl ⟨wanted_none rfl, ?_⟩
              unfold Oper.wp
              go_simp
              all_goals exact ⟨_, rfl, rfl, ⟨_, rfl⟩⟩
            · simp at hq; subst hq
              have g21 : act.tmps[21]?.getD undef = .slice (some ⟨b', off', none⟩) ys.length cap' := hI.has 4 21 rfl (hall ⟨4, .data⟩ (by simp) rfl)
              have g22 : act.tmps[22]?.getD undef = .int .i64 k := hI.has 5 22 rfl (hall ⟨5, .data⟩ (by simp) rfl)
              clear hI hall hnot hcl
              refine .inl ⟨wanted_none rfl, ?_⟩
              unfold Oper.wp
              go_simp
              all_goals exact ⟨_, rfl, rfl, ⟨_, rfl⟩⟩
            · simp at hq; subst hq
              have g23 : act.tmps[23]?.getD undef = .pointer (some ⟨b', off' + k, none⟩) := hI.has 6 23 rfl (hall ⟨6, .data⟩ (by simp) rfl)
              clear hI hall hnot hcl
              refine .inl ⟨wanted_none rfl, ?_⟩
              unfold Oper.wp
              go_simp
              all_goals exact ⟨_, rfl, rfl, ⟨_, rfl⟩⟩
            · simp at hq; subst hq
              have g20 : act.tmps[20]?.getD undef = .float .f32 x := hI.has 3 20 rfl (hall ⟨3, .data⟩ (by simp) rfl)
              have g24 : act.tmps[24]?.getD undef = .float .f32 y := hI.has 7 24 rfl (hall ⟨7, .data⟩ (by simp) rfl)
              clear hI hall hnot hcl
              refine .inl ⟨wanted_none rfl, ?_⟩
              unfold Oper.wp
              go_simp
              refine (s_l01Same _ _ _ AX.out BX.out).mono ?_
              rintro e w4 ⟨rfl, rfl⟩
              rw [PX.out]
              exact ⟨_, rfl, rfl, ⟨_, rfl⟩⟩
            · simp at hq; subst hq
              have g25 : act.tmps[25]?.getD undef = .bool true := hI.has 8 25 rfl (hall ⟨8, .data⟩ (by simp) rfl)
              clear hI hall hnot hcl
              refine .inl ⟨wanted_none rfl, ?_⟩
              unfold Oper.wp
              go_simp
              all_goals exact ⟨_, rfl, rfl, ⟨_, rfl⟩⟩
            · simp at hq
          case hend =>
            intro listed act w3 hI hall
            obtain ⟨nn, rfl⟩ := hI.cls
            have g26 : act.tmps[26]?.getD undef = .bool false := hI.has 9 26 rfl (hall 9 (by decide))
            have g5 : act.tmps[5]?.getD undef = .int .i64 k := hI.kept 5 (by kernel_rfl)
            have g0 := hI.kept 0 (by kernel_rfl)
            conv at g0 => rhs; whnf
            have g1 := hI.kept 1 (by kernel_rfl)
            conv at g1 => rhs; whnf
            have g2 : act.tmps[2]?.getD undef = undef := hI.kept 2 (by kernel_rfl)
            have g3 : act.tmps[3]?.getD undef = undef := hI.kept 3 (by kernel_rfl)
            have g6 := hI.kept 6 (by kernel_rfl)
            conv at g6 => rhs; whnf
            have g7 := hI.kept 7 (by kernel_rfl)
            conv at g7 => rhs; whnf
            have g8 := hI.kept 8 (by kernel_rfl)
            conv at g8 => rhs; whnf
            have g9 := hI.kept 9 (by kernel_rfl)
            conv at g9 => rhs; whnf
            have g10 := hI.kept 10 (by kernel_rfl)
            conv at g10 => rhs; whnf
            have hsz : act.tmps.size = 27 := hI.size.trans (by kernel_rfl)
            have hd := hI.defers
            clear hI hall
            obtain ⟨tt, dd⟩ := act
            simp only at g0 g1 g2 g3 g5 g6 g7 g8 g9 g10 g26 hsz hd
            subst hd
            have hl : tt = #[tt[0]?.getD undef, tt[1]?.getD undef, tt[2]?.getD undef, tt[3]?.getD undef, tt[4]?.getD undef, tt[5]?.getD undef, tt[6]?.getD undef, tt[7]?.getD undef, tt[8]?.getD undef, tt[9]?.getD undef, tt[10]?.getD undef, tt[11]?.getD undef, tt[12]?.getD undef, tt[13]?.getD undef, tt[14]?.getD undef, tt[15]?.getD undef, tt[16]?.getD undef, tt[17]?.getD undef, tt[18]?.getD undef, tt[19]?.getD undef, tt[20]?.getD undef, tt[21]?.getD undef, tt[22]?.getD undef, tt[23]?.getD undef, tt[24]?.getD undef, tt[25]?.getD undef, tt[26]?.getD undef] := (arr_lit hsz).trans rfl
            rw [g0, g1, g2, g3, g5, g6, g7, g8, g9, g10, g26] at hl
            clear g0 g1 g2 g3 g5 g6 g7 g8 g9 g10 g26 hsz
            generalize tt[4]?.getD undef = y4 at hl
            generalize tt[11]?.getD undef = y11 at hl
            generalize tt[12]?.getD undef = y12 at hl
            generalize tt[13]?.getD undef = y13 at hl
            generalize tt[14]?.getD undef = y14 at hl
            generalize tt[15]?.getD undef = y15 at hl
            generalize tt[16]?.getD undef = y16 at hl
            generalize tt[17]?.getD undef = y17 at hl
            generalize tt[18]?.getD undef = y18 at hl
            generalize tt[19]?.getD undef = y19 at hl
            generalize tt[20]?.getD undef = y20 at hl
            generalize tt[21]?.getD undef = y21 at hl
            generalize tt[22]?.getD undef = y22 at hl
            generalize tt[23]?.getD undef = y23 at hl
            generalize tt[24]?.getD undef = y24 at hl
            generalize tt[25]?.getD undef = y25 at hl
            subst hl
            go_wp2
            go_roundw
            case rel => exact ⟨k + 1, nn, by omega, by go_num, HG2, rfl⟩
            case measure => simp [intOf]; omega
      · have hkk : k = xs.length := by omega
        subst hkk
        have HN : Hid (samL1 xs ys = true) := Lib.hid (by rw [HV.out, hr.out])
        go_wp2
        go_ret
        exact ⟨by rw [HN.out]; rfl, n, rfl⟩
  · have e1 : ((xs.length : Int) != (ys.length : Int)) = true := by rw [bne_iff_ne]; omega
    have HN : Hid (samL1 xs ys = false) := Lib.hid (by unfold samL1; rw [decide_eq_false hl]; rfl)
    clear hl
    go_enter Try.func179, Try.ntmps179
    go_wp2
    go_ret
    exact ⟨by rw [HN.out]; rfl, 0, rfl⟩
set_option maxHeartbeats 4000000 in
theorem lib_EqualFunc_same (A L : Option Addr) (cap cap' : Nat) (xs ys : List Nat) (w : World) (h : Fl w A xs) (h' : Fl w L ys) (hn : xs.length ≤ 1048576) (hn' : ys.length ≤ 1048576) (hx : ∀ x ∈ xs, x < words .f32) (hy : ∀ x ∈ ys, x < words .f32) :
    Calls Try.prog 186 #[.slice A xs.length cap, .slice L ys.length cap', .func (.func 184) #[] #[]] w fun e w' => e = .returned (.bool (samL1 xs ys)) ∧ ∃ n, w' = w.drewN n := by
  have HF := Lib.hid h; clear h
  have HG := Lib.hid h'; clear h'
  have HX := Lib.hid hx; clear hx
  have HY := Lib.hid hy; clear hy
  by_cases hl : xs.length = ys.length
  · have e1 : ((xs.length : Int) != (ys.length : Int)) = false := by simp; omega
    have HV : Hid (samL1 xs ys = alls (fun k => samN1 (xs.getD k 0) (ys.getD k 0)) xs.length) := Lib.hid (by unfold samL1; rw [decide_eq_true hl, Bool.true_and])
    have hle : xs.length ≤ ys.length := by omega
    have HL := Lib.hid hl; clear hl
    go_enter Try.func186, Try.ntmps186
    go_wp2
    go_loopw [17] (fun i wr => ∃ k n : Nat, k ≤ xs.length ∧ i = .int .i64 k ∧ Hid (alls (fun k => samN1 (xs.getD k 0) (ys.getD k 0)) k = true) ∧ wr = w.drewN n) (fun i _ => xs.length - (intOf i).toNat)
    case atStart => exact ⟨0, 0, Nat.zero_le _, rfl, rfl, rfl⟩
    case round =>
      obtain ⟨k, n, hk, rfl, hr, rfl⟩ := hrel
      clear e1
      by_cases hlt : k < xs.length
      · have hlt2 : k < ys.length := by omega
        obtain ⟨b, off, rfl, hb, hc⟩ := HF.out.at_ hlt
        obtain ⟨b', off', rfl, hb', hc'⟩ := HG.out.at_ hlt2
        have AX := Lib.hid (word_at HX.out hlt)
        have BX := Lib.hid (word_at HY.out hlt2)
        have HA : Hid (alls (fun k => samN1 (xs.getD k 0) (ys.getD k 0)) (k + 1) = samN1 (xs.getD k 0) (ys.getD k 0)) := Lib.hid (by show (alls _ k && _) = _; rw [hr.out]; rfl)
        have HNo : Hid (alls (fun k => samN1 (xs.getD k 0) (ys.getD k 0)) (k + 1) = false → samL1 xs ys = false) := Lib.hid (fun h => by rw [HV.out]; exact alls_no h (by omega))
        obtain ⟨x, hx⟩ : ∃ x, x = xs.getD k 0 := ⟨_, rfl⟩
        obtain ⟨y, hy⟩ : ∃ x, x = ys.getD k 0 := ⟨_, rfl⟩
        rw [← hx] at hc AX
        rw [← hy] at hc' BX
        have HXX := Lib.hid hx; clear hx hb
        have HYY := Lib.hid hy; clear hy hb'
        go_wp2_with fail
        refine (i_SameNumber _ _ _ AX.out BX.out).mono ?_
        rintro e w' ⟨m, rfl, rfl⟩
        cases px : decide (canon .f32 x = canon .f32 y)
        · have HN : Hid (samL1 xs ys = false) := Lib.hid (HNo.out (by rw [HA.out, ← HXX.out, ← HYY.out]; exact px))
          clear px
          go_wp2
          go_ret
          exact ⟨by rw [HN.out]; rfl, _, by first | rfl | (simp only [World.drewN_drewN]; rfl)⟩
        · have HG2 : Hid (alls (fun k => samN1 (xs.getD k 0) (ys.getD k 0)) (k + 1) = true) := Lib.hid (by rw [HA.out, ← HXX.out, ← HYY.out]; exact px)
          clear px
          go_wp2
          go_roundw
          case rel => exact ⟨k + 1, _, by omega, by go_num, HG2, by first | rfl | (simp only [World.drewN_drewN]; rfl)⟩
          case measure => simp [intOf]; omega
      · have hkk : k = xs.length := by omega
        subst hkk
        have HN : Hid (samL1 xs ys = true) := Lib.hid (by rw [HV.out, hr.out])
        go_wp2
        go_ret
        exact ⟨by rw [HN.out]; rfl, n, rfl⟩
  · have e1 : ((xs.length : Int) != (ys.length : Int)) = true := by rw [bne_iff_ne]; omega
    have HN : Hid (samL1 xs ys = false) := Lib.hid (by unfold samL1; rw [decide_eq_false hl]; rfl)
    clear hl
    go_enter Try.func186, Try.ntmps186
    go_wp2
    go_ret
    exact ⟨by rw [HN.out]; rfl, 0, rfl⟩
end Go.Proofs.Ytiiiigldpbomkaa
