/- The worst of loads: the specification's side. No statement is proved here. -/
import Derived.Test.YtpmjikchlofebaaWlI
namespace Go.Proofs.Ytpmjikchlofebaa
open Go Go.RowKit
def idxW (ls : List (List Nat)) (i k c : Nat) : Nat := wlI ls c (if c < k then i + 1 else i)
def outL (ls : List (List Nat)) (n i k : Nat) : List Nat := (List.range n).map fun c => (rowL ls (idxW ls i k c)).getD c 0
def whoL (ls : List (List Nat)) (n i k : Nat) : List Int := (List.range n).map fun c => ((idxW ls i k c : Nat) : Int)
theorem outL_len (ls : List (List Nat)) (n i k : Nat) : (outL ls n i k).length = n := by simp [outL]
theorem whoL_len (ls : List (List Nat)) (n i k : Nat) : (whoL ls n i k).length = n := by simp [whoL]
theorem outL_at {ls : List (List Nat)} {n i k c : Nat} (h : c < n) : (outL ls n i k).getD c 0 = (rowL ls (idxW ls i k c)).getD c 0 := by simp [outL, List.getD, h]
theorem whoL_at {ls : List (List Nat)} {n i k c : Nat} (h : c < n) : (whoL ls n i k).getD c 0 = ((idxW ls i k c : Nat) : Int) := by simp [whoL, List.getD, h]
theorem outL_start {ls : List (List Nat)} {n : Nat} (h : (rowL ls 0).length = n) : outL ls n 0 0 = rowL ls 0 := by
  apply List.ext_getElem
  · simp [outL, h]
  · intro j h1 h2
    simp [outL, idxW, wlI, List.getD, h2]
theorem idxW_all {ls : List (List Nat)} {n i c : Nat} (h : c < n) : idxW ls i n c = idxW ls (i + 1) 0 c := by unfold idxW; rw [if_pos h, if_neg (Nat.not_lt_zero _)]
theorem outL_all (ls : List (List Nat)) (n i : Nat) : outL ls n i n = outL ls n (i + 1) 0 := by
  unfold outL
  apply List.map_congr_left
  intro c hc
  rw [idxW_all (List.mem_range.1 hc)]
theorem whoL_all (ls : List (List Nat)) (n i : Nat) : whoL ls n i n = whoL ls n (i + 1) 0 := by
  unfold whoL
  apply List.map_congr_left
  intro c hc
  rw [idxW_all (List.mem_range.1 hc)]
theorem outL_end {ls : List (List Nat)} {n : Nat} (h : wlN ls = n) : outL ls n ls.length 0 = wlA ls := by
  unfold outL wlA; rw [h]; rfl
theorem whoL_end {ls : List (List Nat)} {n : Nat} (h : wlN ls = n) : whoL ls n ls.length 0 = wlW ls := by
  unfold whoL wlW; rw [h]; rfl
theorem idxW_here (ls : List (List Nat)) (i k : Nat) : idxW ls i k k = wlI ls k i := by unfold idxW; rw [if_neg (Nat.lt_irrefl _)]
theorem idxW_next {ls : List (List Nat)} {i k c : Nat} (h : c ≠ k) : idxW ls i (k + 1) c = idxW ls i k c := by
  unfold idxW
  by_cases e : c < k
  · rw [if_pos e, if_pos (by omega)]
  · rw [if_neg e, if_neg (by omega)]
theorem idxW_new (ls : List (List Nat)) (i k : Nat) : idxW ls i (k + 1) k = wlI ls k (i + 1) := by unfold idxW; rw [if_pos (by omega)]
theorem wl_keep {ls : List (List Nat)} {n i k : Nat} (h : gtr32 ((rowL ls i).getD k 0) ((rowL ls (wlI ls k i)).getD k 0) = false) : outL ls n i (k + 1) = outL ls n i k ∧ whoL ls n i (k + 1) = whoL ls n i k := by
  have key : ∀ c, idxW ls i (k + 1) c = idxW ls i k c := by
    intro c
    by_cases e : c = k
    · subst e
      rw [idxW_new, idxW_here]
      simp only [wlI, h]
      rfl
    · exact idxW_next e
  unfold outL whoL
  exact ⟨List.map_congr_left (fun c _ => by rw [key]), List.map_congr_left (fun c _ => by rw [key])⟩
theorem wl_take {ls : List (List Nat)} {n i k : Nat} (h : gtr32 ((rowL ls i).getD k 0) ((rowL ls (wlI ls k i)).getD k 0) = true) : outL ls n i (k + 1) = (outL ls n i k).set k ((rowL ls i).getD k 0) ∧ whoL ls n i (k + 1) = (whoL ls n i k).set k (i : Int) := by
  have kn : idxW ls i (k + 1) k = i := by rw [idxW_new]; simp only [wlI, h]; rfl
  refine ⟨List.ext_getElem (by simp [outL]) (fun c h1 h2 => ?_), List.ext_getElem (by simp [whoL]) (fun c h1 h2 => ?_)⟩
  · rw [List.getElem_set]
    by_cases e : k = c
    · subst e
      rw [if_pos rfl]
      simp only [outL, List.getElem_map, List.getElem_range]
      rw [kn]
    · rw [if_neg e]
      simp only [outL, List.getElem_map, List.getElem_range]
      rw [idxW_next (fun hh => e hh.symm)]
  · rw [List.getElem_set]
    by_cases e : k = c
    · subst e
      rw [if_pos rfl]
      simp only [whoL, List.getElem_map, List.getElem_range]
      rw [kn]
    · rw [if_neg e]
      simp only [whoL, List.getElem_map, List.getElem_range]
      rw [idxW_next (fun hh => e hh.symm)]
set_option maxHeartbeats 8000000 in
set_option maxRecDepth 100000 in
theorem s_WorstLoads (A : Option Addr) (cap : Nat) (ls : List (List Nat)) (w : World) (h : FlLL w A ls) (hn : totL ls ≤ 1048576) :
    Calls Try.prog 34 #[.slice A ls.length cap] w fun e w' => ∃ A1 c1 g1 A2 c2 g2, e = .returned (.tuple #[.slice A1 (wlA ls).length c1, .slice A2 (wlW ls).length c2, .bool (wlC ls)]) ∧ OwnW w' w.heap.size A1 A2 g1 g2 ls ∧ Below w.heap.size w w' := by
  have HF := Lib.hid h; clear h
  have HTOT := Lib.hid hn; clear hn
  have HNo : ∀ W, Hid (wlC ls = false → Below w.heap.size w W → ∃ A1 c1 g1 A2 c2 g2, Ending.returned (.tuple #[.slice none 0 0, .slice none 0 0, .bool false]) = .returned (.tuple #[.slice A1 (wlA ls).length c1, .slice A2 (wlW ls).length c2, .bool (wlC ls)]) ∧ OwnW W w.heap.size A1 A2 g1 g2 ls ∧ Below w.heap.size w W) := fun W => Lib.hid (fun hc hb => ⟨none, 0, 0, none, 0, 0, by rw [hc, wlA_no hc, wlW_no hc]; rfl, OwnW.no hc, hb⟩)
  by_cases h1 : 1 ≤ ls.length
  rotate_left
  · have HN := Lib.hid (wlC_n (ls := ls) (by omega))
    have hi : (ls.length : Int) < 1 := by omega
    clear h1
    go_enter Try.func34, Try.ntmps34
    go_wp2
    refine bodyPost_ret (results_tmp3 rfl _ _ _) rfl ?_
    first | exact (HNo _).out HN.out (Below.refl _ _) | (obtain ⟨z1, z2, z3, z4, z5, z6, q1, q2, q3⟩ := (HNo _).out HN.out (Below.refl _ _); exact ⟨z1, z2, z3, z4, ⟨z5, q1⟩, ⟨z6, q2⟩, q3⟩)
  by_cases h2 : ls.length ≤ 32
  rotate_left
  · have HN := Lib.hid (wlC_n (ls := ls) (by omega))
    have hi : ¬ (ls.length : Int) < 1 := by omega
    have hi2 : (32 : Int) < (ls.length : Int) := by omega
    clear h1 h2
    go_enter Try.func34, Try.ntmps34
    go_wp2
    refine bodyPost_ret (results_tmp3 rfl _ _ _) rfl ?_
    first | exact (HNo _).out HN.out (Below.refl _ _) | (obtain ⟨z1, z2, z3, z4, z5, z6, q1, q2, q3⟩ := (HNo _).out HN.out (Below.refl _ _); exact ⟨z1, z2, z3, z4, ⟨z5, q1⟩, ⟨z6, q2⟩, q3⟩)
  have hi : ¬ (ls.length : Int) < 1 := by omega
  have hi2 : ¬ (32 : Int) < (ls.length : Int) := by omega
  have HL : Hid (1 ≤ ls.length ∧ ls.length ≤ 32) := Lib.hid ⟨h1, h2⟩
  clear h1 h2
  go_enter Try.func34, Try.ntmps34
  go_wp2
  go_loopw [20] (fun i wr => ∃ k nn : Nat, k ≤ ls.length ∧ i = .int .i64 k ∧ Hid (alls (wlP ls) k = true) ∧ wr = w.drewN nn) (fun i _ => ls.length - (intOf i).toNat)
  case atStart => exact ⟨0, 0, Nat.zero_le _, rfl, Lib.hid rfl, rfl⟩
  case round =>
    obtain ⟨k, nn, hk, rfl, HA, rfl⟩ := hrel
    by_cases hlt : k < ls.length
    · obtain ⟨b, off, Ak, ck, rfl, -, hc, hfl⟩ := HF.out.at_ hlt
      obtain ⟨b', off', A0, c0, hE, -, hc0, -⟩ := HF.out.at_ (show 0 < ls.length by omega)
      obtain ⟨rfl, rfl⟩ : b = b' ∧ off = off' := by simpa using hE
      clear hE
      have hce : w.cell? ⟨b, off, none⟩ = some (.slice A0 (rowL ls 0).length c0) := hc0
      have hck : w.cell? ⟨b, off + k, none⟩ = some (.slice Ak (rowL ls k).length ck) := hc
      have HFK : Hid (Fl w Ak (rowL ls k)) := Lib.hid hfl
      have HLE : Hid ((rowL ls k).length ≤ 1048576) := Lib.hid (by have := sumL_at hlt; have := HTOT.out; unfold totL at this; unfold rowL; omega)
      have HS : Hid (alls (wlP ls) (k + 1) = (ldV (rowL ls k) && decide ((rowL ls k).length = (rowL ls 0).length))) := Lib.hid (by simp only [alls]; rw [HA.out, Bool.true_and]; rfl)
      have hpos : 0 < ls.length := by omega
      have hdd : ∀ nn j, ∃ mm, (w.drewN nn).drewN j = w.drewN mm := fun nn j => ⟨nn + j, World.drewN_drewN ..⟩
      have HLD : Hid (∀ j, Calls Try.prog 100 #[.slice Ak (rowL ls k).length ck] (w.drewN j) fun e w' => e = .returned (.bool (ldV (rowL ls k))) ∧ ∃ n, w' = (w.drewN j).drewN n) := Lib.hid (fun j => s_l07Loads Ak ck (rowL ls k) (w.drewN j) HFK.out HLE.out)
      clear hc hc0 hfl HFK HLE
      obtain ⟨nk, hnk⟩ : ∃ z, z = (rowL ls k).length := ⟨_, rfl⟩
      obtain ⟨m0, hm0⟩ : ∃ z, z = (rowL ls 0).length := ⟨_, rfl⟩
      rw [← hnk] at hck HS HLD
      rw [← hm0] at hce HS
      clear hnk hm0
      cases hv : ldV (rowL ls k)
      · rw [hv] at HS HLD
        have HN : Hid (wlC ls = false) := Lib.hid (wlC_a (k := k + 1) (by rw [HS.out]; rfl) (by omega))
        clear hv HS
        go_upto_region 6 with fail
        refine wp_region_inv3 (fun iq v => match iq with
          | 0 => v = .slice (some ⟨b, off, none⟩) ls.length cap
          | 1 => v = .int .i64 k
          | 2 => v = .pointer (some ⟨b, off + k, none⟩)
          | 3 => v = .slice Ak nk ck
          | 4 => v = .bool false
          | 5 => v = .bool true
          | 6 => v = .bool true
          | 7 => v = undef
          | 8 => v = undef
          | 9 => v = undef
          | 10 => v = undef
          | 11 => v = undef
          | 12 => v = undef
          | 13 => v = undef
          | 14 => v = undef
          | 15 => v = undef
          | 16 => v = undef
          | 17 => v = .bool true
          | _ => False) (fun _ ww => ∃ nq, ww = w.drewN nq) (by kernel_rfl) (by kernel_rfl) ⟨nn + 1, by first | rfl | (simp only [World.drewN_drewN]; rfl)⟩ ?hop ?hend
        case hop =>
          intro q o hq listed act w3 hI hnot hcl hall
          obtain ⟨nq, rfl⟩ := hI.cls
          rcases q with _ | _ | _ | _ | _ | _ | _ | _ | _ | _ | _ | _ | _ | _ | _ | _ | _ | _ | q
          · simp at hq; subst hq
            have g0 : act.tmps[0]?.getD undef = .slice (some ⟨b, off, none⟩) ls.length cap := hI.kept 0 (by kernel_rfl)
            clear hI hall hnot hcl
            refine .inl ⟨wanted_none rfl, ?_⟩
            unfold Oper.wp
            go_simp
            all_goals exact ⟨_, rfl, rfl, ⟨_, rfl⟩⟩
          · simp at hq; subst hq
            have g5 : act.tmps[5]?.getD undef = .int .i64 k := hI.kept 5 (by kernel_rfl)
            clear hI hall hnot hcl
            refine .inl ⟨wanted_none rfl, ?_⟩
            unfold Oper.wp
            go_simp
            all_goals exact ⟨_, rfl, rfl, ⟨_, rfl⟩⟩
          · simp at hq; subst hq
            have g23 : act.tmps[23]?.getD undef = .slice (some ⟨b, off, none⟩) ls.length cap := hI.has 0 23 rfl (hall ⟨0, .data⟩ (by simp) rfl)
            have g24 : act.tmps[24]?.getD undef = .int .i64 k := hI.has 1 24 rfl (hall ⟨1, .data⟩ (by simp) rfl)
            clear hI hall hnot hcl
            refine .inl ⟨wanted_none rfl, ?_⟩
            unfold Oper.wp
            go_simp
            all_goals exact ⟨_, rfl, rfl, ⟨_, rfl⟩⟩
          · simp at hq; subst hq
            have g25 : act.tmps[25]?.getD undef = .pointer (some ⟨b, off + k, none⟩) := hI.has 2 25 rfl (hall ⟨2, .data⟩ (by simp) rfl)
            clear hI hall hnot hcl
            refine .inl ⟨wanted_none rfl, ?_⟩
            unfold Oper.wp
            go_simp
            all_goals exact ⟨_, rfl, rfl, ⟨_, rfl⟩⟩
          · simp at hq; subst hq
            have g26 : act.tmps[26]?.getD undef = .slice Ak nk ck := hI.has 3 26 rfl (hall ⟨3, .data⟩ (by simp) rfl)
            clear hI hall hnot hcl
            refine .inl ⟨wanted_none rfl, ?_⟩
            unfold Oper.wp
            go_simp
            refine (HLD.out _).mono ?_
            rintro e w4 ⟨he, n4, hw4⟩
            subst he
            subst hw4
            exact ⟨_, rfl, rfl, by first | exact ⟨_, rfl⟩ | exact hdd _ _⟩
          · simp at hq; subst hq
            have g27 : act.tmps[27]?.getD undef = .bool false := hI.has 4 27 rfl (hall ⟨4, .data⟩ (by simp) rfl)
            clear hI hall hnot hcl
            refine .inl ⟨wanted_none rfl, ?_⟩
            unfold Oper.wp
            go_simp
            all_goals exact ⟨_, rfl, rfl, ⟨_, rfl⟩⟩
          · simp at hq; subst hq
            have g28 : act.tmps[28]?.getD undef = .bool true := hI.has 5 28 rfl (hall ⟨5, .data⟩ (by simp) rfl)
            clear hI hall hnot hcl
            refine .inl ⟨wanted_none rfl, ?_⟩
            unfold Oper.wp
            go_simp
            all_goals exact ⟨_, rfl, rfl, ⟨_, rfl⟩⟩
          · simp at hq; subst hq
            have gg : act.tmps[29]?.getD undef = .bool true := hI.has 6 29 rfl (hall ⟨6, .guard⟩ (by simp) rfl)
            clear hI hall hnot hcl
            exact .inr ⟨(wanted_of rfl rfl gg).trans rfl, rfl, ⟨_, rfl⟩⟩
          · simp at hq; subst hq
            have gg : act.tmps[29]?.getD undef = .bool true := hI.has 6 29 rfl (hall ⟨6, .guard⟩ (by simp) rfl)
            clear hI hall hnot hcl
            exact .inr ⟨(wanted_of rfl rfl gg).trans rfl, rfl, ⟨_, rfl⟩⟩
          · simp at hq; subst hq
            have gg : act.tmps[29]?.getD undef = .bool true := hI.has 6 29 rfl (hall ⟨6, .guard⟩ (by simp) rfl)
            clear hI hall hnot hcl
            exact .inr ⟨(wanted_of rfl rfl gg).trans rfl, rfl, ⟨_, rfl⟩⟩
          · simp at hq; subst hq
            have gg : act.tmps[29]?.getD undef = .bool true := hI.has 6 29 rfl (hall ⟨6, .guard⟩ (by simp) rfl)
            clear hI hall hnot hcl
            exact .inr ⟨(wanted_of rfl rfl gg).trans rfl, rfl, ⟨_, rfl⟩⟩
          · simp at hq; subst hq
            have gg : act.tmps[29]?.getD undef = .bool true := hI.has 6 29 rfl (hall ⟨6, .guard⟩ (by simp) rfl)
            clear hI hall hnot hcl
            exact .inr ⟨(wanted_of rfl rfl gg).trans rfl, rfl, ⟨_, rfl⟩⟩
          · simp at hq; subst hq
            have gg : act.tmps[29]?.getD undef = .bool true := hI.has 6 29 rfl (hall ⟨6, .guard⟩ (by simp) rfl)
            clear hI hall hnot hcl
            exact .inr ⟨(wanted_of rfl rfl gg).trans rfl, rfl, ⟨_, rfl⟩⟩
          · simp at hq; subst hq
            have gg : act.tmps[29]?.getD undef = .bool true := hI.has 6 29 rfl (hall ⟨6, .guard⟩ (by simp) rfl)
            clear hI hall hnot hcl
            exact .inr ⟨(wanted_of rfl rfl gg).trans rfl, rfl, ⟨_, rfl⟩⟩
          · simp at hq; subst hq
            have gg : act.tmps[29]?.getD undef = .bool true := hI.has 6 29 rfl (hall ⟨6, .guard⟩ (by simp) rfl)
            clear hI hall hnot hcl
            exact .inr ⟨(wanted_of rfl rfl gg).trans rfl, rfl, ⟨_, rfl⟩⟩
          · simp at hq; subst hq
            have gg : act.tmps[29]?.getD undef = .bool true := hI.has 6 29 rfl (hall ⟨6, .guard⟩ (by simp) rfl)
            clear hI hall hnot hcl
            exact .inr ⟨(wanted_of rfl rfl gg).trans rfl, rfl, ⟨_, rfl⟩⟩
          · simp at hq; subst hq
            have gg : act.tmps[29]?.getD undef = .bool true := hI.has 6 29 rfl (hall ⟨6, .guard⟩ (by simp) rfl)
            clear hI hall hnot hcl
            exact .inr ⟨(wanted_of rfl rfl gg).trans rfl, rfl, ⟨_, rfl⟩⟩
          · simp at hq; subst hq
            have g29 : act.tmps[29]?.getD undef = .bool true := hI.has 6 29 rfl (hall ⟨6, .data⟩ (by simp) rfl)
            have g39 : act.tmps[39]?.getD undef = undef := hI.has 16 39 rfl (hall ⟨16, .data⟩ (by simp) rfl)
            clear hI hall hnot hcl
            refine .inl ⟨wanted_none rfl, ?_⟩
            unfold Oper.wp
            go_simp
            all_goals exact ⟨_, rfl, rfl, ⟨_, rfl⟩⟩
          · simp at hq
        case hend =>
          intro listed act w3 hI hall
          obtain ⟨nq, rfl⟩ := hI.cls
          have g40 : act.tmps[40]?.getD undef = .bool true := hI.has 17 40 rfl (hall 17 (by decide))
          first | have g0 : act.tmps[0]?.getD undef = undef := hI.kept 0 (by kernel_rfl) | (have g0 := hI.kept 0 (by kernel_rfl); conv at g0 => rhs; whnf)
          first | have g1 : act.tmps[1]?.getD undef = undef := hI.kept 1 (by kernel_rfl) | (have g1 := hI.kept 1 (by kernel_rfl); conv at g1 => rhs; whnf)
          first | have g2 : act.tmps[2]?.getD undef = undef := hI.kept 2 (by kernel_rfl) | (have g2 := hI.kept 2 (by kernel_rfl); conv at g2 => rhs; whnf)
          first | have g3 : act.tmps[3]?.getD undef = undef := hI.kept 3 (by kernel_rfl) | (have g3 := hI.kept 3 (by kernel_rfl); conv at g3 => rhs; whnf)
          first | have g4 : act.tmps[4]?.getD undef = undef := hI.kept 4 (by kernel_rfl) | (have g4 := hI.kept 4 (by kernel_rfl); conv at g4 => rhs; whnf)
          first | have g5 : act.tmps[5]?.getD undef = undef := hI.kept 5 (by kernel_rfl) | (have g5 := hI.kept 5 (by kernel_rfl); conv at g5 => rhs; whnf)
          first | have g6 : act.tmps[6]?.getD undef = undef := hI.kept 6 (by kernel_rfl) | (have g6 := hI.kept 6 (by kernel_rfl); conv at g6 => rhs; whnf)
          first | have g7 : act.tmps[7]?.getD undef = undef := hI.kept 7 (by kernel_rfl) | (have g7 := hI.kept 7 (by kernel_rfl); conv at g7 => rhs; whnf)
          first | have g8 : act.tmps[8]?.getD undef = undef := hI.kept 8 (by kernel_rfl) | (have g8 := hI.kept 8 (by kernel_rfl); conv at g8 => rhs; whnf)
          first | have g9 : act.tmps[9]?.getD undef = undef := hI.kept 9 (by kernel_rfl) | (have g9 := hI.kept 9 (by kernel_rfl); conv at g9 => rhs; whnf)
          first | have g10 : act.tmps[10]?.getD undef = undef := hI.kept 10 (by kernel_rfl) | (have g10 := hI.kept 10 (by kernel_rfl); conv at g10 => rhs; whnf)
          first | have g11 : act.tmps[11]?.getD undef = undef := hI.kept 11 (by kernel_rfl) | (have g11 := hI.kept 11 (by kernel_rfl); conv at g11 => rhs; whnf)
          first | have g12 : act.tmps[12]?.getD undef = undef := hI.kept 12 (by kernel_rfl) | (have g12 := hI.kept 12 (by kernel_rfl); conv at g12 => rhs; whnf)
          first | have g13 : act.tmps[13]?.getD undef = undef := hI.kept 13 (by kernel_rfl) | (have g13 := hI.kept 13 (by kernel_rfl); conv at g13 => rhs; whnf)
          first | have g14 : act.tmps[14]?.getD undef = undef := hI.kept 14 (by kernel_rfl) | (have g14 := hI.kept 14 (by kernel_rfl); conv at g14 => rhs; whnf)
          first | have g15 : act.tmps[15]?.getD undef = undef := hI.kept 15 (by kernel_rfl) | (have g15 := hI.kept 15 (by kernel_rfl); conv at g15 => rhs; whnf)
          first | have g16 : act.tmps[16]?.getD undef = undef := hI.kept 16 (by kernel_rfl) | (have g16 := hI.kept 16 (by kernel_rfl); conv at g16 => rhs; whnf)
          first | have g17 : act.tmps[17]?.getD undef = undef := hI.kept 17 (by kernel_rfl) | (have g17 := hI.kept 17 (by kernel_rfl); conv at g17 => rhs; whnf)
          first | have g18 : act.tmps[18]?.getD undef = undef := hI.kept 18 (by kernel_rfl) | (have g18 := hI.kept 18 (by kernel_rfl); conv at g18 => rhs; whnf)
          first | have g19 : act.tmps[19]?.getD undef = undef := hI.kept 19 (by kernel_rfl) | (have g19 := hI.kept 19 (by kernel_rfl); conv at g19 => rhs; whnf)
          first | have g20 : act.tmps[20]?.getD undef = undef := hI.kept 20 (by kernel_rfl) | (have g20 := hI.kept 20 (by kernel_rfl); conv at g20 => rhs; whnf)
          first | have g21 : act.tmps[21]?.getD undef = undef := hI.kept 21 (by kernel_rfl) | (have g21 := hI.kept 21 (by kernel_rfl); conv at g21 => rhs; whnf)
          first | have g22 : act.tmps[22]?.getD undef = undef := hI.kept 22 (by kernel_rfl) | (have g22 := hI.kept 22 (by kernel_rfl); conv at g22 => rhs; whnf)
          first | have g41 : act.tmps[41]?.getD undef = undef := hI.kept 41 (by kernel_rfl) | (have g41 := hI.kept 41 (by kernel_rfl); conv at g41 => rhs; whnf)
          first | have g42 : act.tmps[42]?.getD undef = undef := hI.kept 42 (by kernel_rfl) | (have g42 := hI.kept 42 (by kernel_rfl); conv at g42 => rhs; whnf)
          first | have g43 : act.tmps[43]?.getD undef = undef := hI.kept 43 (by kernel_rfl) | (have g43 := hI.kept 43 (by kernel_rfl); conv at g43 => rhs; whnf)
          first | have g44 : act.tmps[44]?.getD undef = undef := hI.kept 44 (by kernel_rfl) | (have g44 := hI.kept 44 (by kernel_rfl); conv at g44 => rhs; whnf)
          first | have g45 : act.tmps[45]?.getD undef = undef := hI.kept 45 (by kernel_rfl) | (have g45 := hI.kept 45 (by kernel_rfl); conv at g45 => rhs; whnf)
          first | have g46 : act.tmps[46]?.getD undef = undef := hI.kept 46 (by kernel_rfl) | (have g46 := hI.kept 46 (by kernel_rfl); conv at g46 => rhs; whnf)
          first | have g47 : act.tmps[47]?.getD undef = undef := hI.kept 47 (by kernel_rfl) | (have g47 := hI.kept 47 (by kernel_rfl); conv at g47 => rhs; whnf)
          first | have g48 : act.tmps[48]?.getD undef = undef := hI.kept 48 (by kernel_rfl) | (have g48 := hI.kept 48 (by kernel_rfl); conv at g48 => rhs; whnf)
          first | have g49 : act.tmps[49]?.getD undef = undef := hI.kept 49 (by kernel_rfl) | (have g49 := hI.kept 49 (by kernel_rfl); conv at g49 => rhs; whnf)
          first | have g50 : act.tmps[50]?.getD undef = undef := hI.kept 50 (by kernel_rfl) | (have g50 := hI.kept 50 (by kernel_rfl); conv at g50 => rhs; whnf)
          first | have g51 : act.tmps[51]?.getD undef = undef := hI.kept 51 (by kernel_rfl) | (have g51 := hI.kept 51 (by kernel_rfl); conv at g51 => rhs; whnf)
          first | have g52 : act.tmps[52]?.getD undef = undef := hI.kept 52 (by kernel_rfl) | (have g52 := hI.kept 52 (by kernel_rfl); conv at g52 => rhs; whnf)
          first | have g53 : act.tmps[53]?.getD undef = undef := hI.kept 53 (by kernel_rfl) | (have g53 := hI.kept 53 (by kernel_rfl); conv at g53 => rhs; whnf)
          first | have g54 : act.tmps[54]?.getD undef = undef := hI.kept 54 (by kernel_rfl) | (have g54 := hI.kept 54 (by kernel_rfl); conv at g54 => rhs; whnf)
          first | have g55 : act.tmps[55]?.getD undef = undef := hI.kept 55 (by kernel_rfl) | (have g55 := hI.kept 55 (by kernel_rfl); conv at g55 => rhs; whnf)
          first | have g56 : act.tmps[56]?.getD undef = undef := hI.kept 56 (by kernel_rfl) | (have g56 := hI.kept 56 (by kernel_rfl); conv at g56 => rhs; whnf)
          first | have g57 : act.tmps[57]?.getD undef = undef := hI.kept 57 (by kernel_rfl) | (have g57 := hI.kept 57 (by kernel_rfl); conv at g57 => rhs; whnf)
          first | have g58 : act.tmps[58]?.getD undef = undef := hI.kept 58 (by kernel_rfl) | (have g58 := hI.kept 58 (by kernel_rfl); conv at g58 => rhs; whnf)
          first | have g59 : act.tmps[59]?.getD undef = undef := hI.kept 59 (by kernel_rfl) | (have g59 := hI.kept 59 (by kernel_rfl); conv at g59 => rhs; whnf)
          first | have g60 : act.tmps[60]?.getD undef = undef := hI.kept 60 (by kernel_rfl) | (have g60 := hI.kept 60 (by kernel_rfl); conv at g60 => rhs; whnf)
          first | have g61 : act.tmps[61]?.getD undef = undef := hI.kept 61 (by kernel_rfl) | (have g61 := hI.kept 61 (by kernel_rfl); conv at g61 => rhs; whnf)
          first | have g62 : act.tmps[62]?.getD undef = undef := hI.kept 62 (by kernel_rfl) | (have g62 := hI.kept 62 (by kernel_rfl); conv at g62 => rhs; whnf)
          first | have g63 : act.tmps[63]?.getD undef = undef := hI.kept 63 (by kernel_rfl) | (have g63 := hI.kept 63 (by kernel_rfl); conv at g63 => rhs; whnf)
          first | have g64 : act.tmps[64]?.getD undef = undef := hI.kept 64 (by kernel_rfl) | (have g64 := hI.kept 64 (by kernel_rfl); conv at g64 => rhs; whnf)
          first | have g65 : act.tmps[65]?.getD undef = undef := hI.kept 65 (by kernel_rfl) | (have g65 := hI.kept 65 (by kernel_rfl); conv at g65 => rhs; whnf)
          first | have g66 : act.tmps[66]?.getD undef = undef := hI.kept 66 (by kernel_rfl) | (have g66 := hI.kept 66 (by kernel_rfl); conv at g66 => rhs; whnf)
          first | have g67 : act.tmps[67]?.getD undef = undef := hI.kept 67 (by kernel_rfl) | (have g67 := hI.kept 67 (by kernel_rfl); conv at g67 => rhs; whnf)
          first | have g68 : act.tmps[68]?.getD undef = undef := hI.kept 68 (by kernel_rfl) | (have g68 := hI.kept 68 (by kernel_rfl); conv at g68 => rhs; whnf)
          first | have g69 : act.tmps[69]?.getD undef = undef := hI.kept 69 (by kernel_rfl) | (have g69 := hI.kept 69 (by kernel_rfl); conv at g69 => rhs; whnf)
          first | have g70 : act.tmps[70]?.getD undef = undef := hI.kept 70 (by kernel_rfl) | (have g70 := hI.kept 70 (by kernel_rfl); conv at g70 => rhs; whnf)
          first | have g71 : act.tmps[71]?.getD undef = undef := hI.kept 71 (by kernel_rfl) | (have g71 := hI.kept 71 (by kernel_rfl); conv at g71 => rhs; whnf)
          first | have g72 : act.tmps[72]?.getD undef = undef := hI.kept 72 (by kernel_rfl) | (have g72 := hI.kept 72 (by kernel_rfl); conv at g72 => rhs; whnf)
          first | have g73 : act.tmps[73]?.getD undef = undef := hI.kept 73 (by kernel_rfl) | (have g73 := hI.kept 73 (by kernel_rfl); conv at g73 => rhs; whnf)
          first | have g74 : act.tmps[74]?.getD undef = undef := hI.kept 74 (by kernel_rfl) | (have g74 := hI.kept 74 (by kernel_rfl); conv at g74 => rhs; whnf)
          first | have g75 : act.tmps[75]?.getD undef = undef := hI.kept 75 (by kernel_rfl) | (have g75 := hI.kept 75 (by kernel_rfl); conv at g75 => rhs; whnf)
          first | have g76 : act.tmps[76]?.getD undef = undef := hI.kept 76 (by kernel_rfl) | (have g76 := hI.kept 76 (by kernel_rfl); conv at g76 => rhs; whnf)
          first | have g77 : act.tmps[77]?.getD undef = undef := hI.kept 77 (by kernel_rfl) | (have g77 := hI.kept 77 (by kernel_rfl); conv at g77 => rhs; whnf)
          first | have g78 : act.tmps[78]?.getD undef = undef := hI.kept 78 (by kernel_rfl) | (have g78 := hI.kept 78 (by kernel_rfl); conv at g78 => rhs; whnf)
          first | have g79 : act.tmps[79]?.getD undef = undef := hI.kept 79 (by kernel_rfl) | (have g79 := hI.kept 79 (by kernel_rfl); conv at g79 => rhs; whnf)
          first | have g80 : act.tmps[80]?.getD undef = undef := hI.kept 80 (by kernel_rfl) | (have g80 := hI.kept 80 (by kernel_rfl); conv at g80 => rhs; whnf)
          first | have g81 : act.tmps[81]?.getD undef = undef := hI.kept 81 (by kernel_rfl) | (have g81 := hI.kept 81 (by kernel_rfl); conv at g81 => rhs; whnf)
          first | have g82 : act.tmps[82]?.getD undef = undef := hI.kept 82 (by kernel_rfl) | (have g82 := hI.kept 82 (by kernel_rfl); conv at g82 => rhs; whnf)
          first | have g83 : act.tmps[83]?.getD undef = undef := hI.kept 83 (by kernel_rfl) | (have g83 := hI.kept 83 (by kernel_rfl); conv at g83 => rhs; whnf)
          first | have g84 : act.tmps[84]?.getD undef = undef := hI.kept 84 (by kernel_rfl) | (have g84 := hI.kept 84 (by kernel_rfl); conv at g84 => rhs; whnf)
          first | have g85 : act.tmps[85]?.getD undef = undef := hI.kept 85 (by kernel_rfl) | (have g85 := hI.kept 85 (by kernel_rfl); conv at g85 => rhs; whnf)
          first | have g86 : act.tmps[86]?.getD undef = undef := hI.kept 86 (by kernel_rfl) | (have g86 := hI.kept 86 (by kernel_rfl); conv at g86 => rhs; whnf)
          first | have g87 : act.tmps[87]?.getD undef = undef := hI.kept 87 (by kernel_rfl) | (have g87 := hI.kept 87 (by kernel_rfl); conv at g87 => rhs; whnf)
          first | have g88 : act.tmps[88]?.getD undef = undef := hI.kept 88 (by kernel_rfl) | (have g88 := hI.kept 88 (by kernel_rfl); conv at g88 => rhs; whnf)
          first | have g89 : act.tmps[89]?.getD undef = undef := hI.kept 89 (by kernel_rfl) | (have g89 := hI.kept 89 (by kernel_rfl); conv at g89 => rhs; whnf)
          have g23 := hI.has 0 23 rfl (hall 0 (by decide))
          have g24 := hI.has 1 24 rfl (hall 1 (by decide))
          have g25 := hI.has 2 25 rfl (hall 2 (by decide))
          have g26 := hI.has 3 26 rfl (hall 3 (by decide))
          have g27 := hI.has 4 27 rfl (hall 4 (by decide))
          have g28 := hI.has 5 28 rfl (hall 5 (by decide))
          have g29 := hI.has 6 29 rfl (hall 6 (by decide))
          have g30 := hI.has 7 30 rfl (hall 7 (by decide))
          have g31 := hI.has 8 31 rfl (hall 8 (by decide))
          have g32 := hI.has 9 32 rfl (hall 9 (by decide))
          have g33 := hI.has 10 33 rfl (hall 10 (by decide))
          have g34 := hI.has 11 34 rfl (hall 11 (by decide))
          have g35 := hI.has 12 35 rfl (hall 12 (by decide))
          have g36 := hI.has 13 36 rfl (hall 13 (by decide))
          have g37 := hI.has 14 37 rfl (hall 14 (by decide))
          have g38 := hI.has 15 38 rfl (hall 15 (by decide))
          have g39 := hI.has 16 39 rfl (hall 16 (by decide))
          have hsz : act.tmps.size = 90 := hI.size.trans (by kernel_rfl)
          have hd := hI.defers
          clear hI hall hdd
          obtain ⟨tt, dd⟩ := act
          simp only at g0 g1 g2 g3 g4 g5 g6 g7 g8 g9 g10 g11 g12 g13 g14 g15 g16 g17 g18 g19 g20 g21 g22 g23 g24 g25 g26 g27 g28 g29 g30 g31 g32 g33 g34 g35 g36 g37 g38 g39 g40 g41 g42 g43 g44 g45 g46 g47 g48 g49 g50 g51 g52 g53 g54 g55 g56 g57 g58 g59 g60 g61 g62 g63 g64 g65 g66 g67 g68 g69 g70 g71 g72 g73 g74 g75 g76 g77 g78 g79 g80 g81 g82 g83 g84 g85 g86 g87 g88 g89 hsz hd
          subst hd
          have hl : tt = #[tt[0]?.getD undef, tt[1]?.getD undef, tt[2]?.getD undef, tt[3]?.getD undef, tt[4]?.getD undef, tt[5]?.getD undef, tt[6]?.getD undef, tt[7]?.getD undef, tt[8]?.getD undef, tt[9]?.getD undef, tt[10]?.getD undef, tt[11]?.getD undef, tt[12]?.getD undef, tt[13]?.getD undef, tt[14]?.getD undef, tt[15]?.getD undef, tt[16]?.getD undef, tt[17]?.getD undef, tt[18]?.getD undef, tt[19]?.getD undef, tt[20]?.getD undef, tt[21]?.getD undef, tt[22]?.getD undef, tt[23]?.getD undef, tt[24]?.getD undef, tt[25]?.getD undef, tt[26]?.getD undef, tt[27]?.getD undef, tt[28]?.getD undef, tt[29]?.getD undef, tt[30]?.getD undef, tt[31]?.getD undef, tt[32]?.getD undef, tt[33]?.getD undef, tt[34]?.getD undef, tt[35]?.getD undef, tt[36]?.getD undef, tt[37]?.getD undef, tt[38]?.getD undef, tt[39]?.getD undef, tt[40]?.getD undef, tt[41]?.getD undef, tt[42]?.getD undef, tt[43]?.getD undef, tt[44]?.getD undef, tt[45]?.getD undef, tt[46]?.getD undef, tt[47]?.getD undef, tt[48]?.getD undef, tt[49]?.getD undef, tt[50]?.getD undef, tt[51]?.getD undef, tt[52]?.getD undef, tt[53]?.getD undef, tt[54]?.getD undef, tt[55]?.getD undef, tt[56]?.getD undef, tt[57]?.getD undef, tt[58]?.getD undef, tt[59]?.getD undef, tt[60]?.getD undef, tt[61]?.getD undef, tt[62]?.getD undef, tt[63]?.getD undef, tt[64]?.getD undef, tt[65]?.getD undef, tt[66]?.getD undef, tt[67]?.getD undef, tt[68]?.getD undef, tt[69]?.getD undef, tt[70]?.getD undef, tt[71]?.getD undef, tt[72]?.getD undef, tt[73]?.getD undef, tt[74]?.getD undef, tt[75]?.getD undef, tt[76]?.getD undef, tt[77]?.getD undef, tt[78]?.getD undef, tt[79]?.getD undef, tt[80]?.getD undef, tt[81]?.getD undef, tt[82]?.getD undef, tt[83]?.getD undef, tt[84]?.getD undef, tt[85]?.getD undef, tt[86]?.getD undef, tt[87]?.getD undef, tt[88]?.getD undef, tt[89]?.getD undef] := (arr_lit hsz).trans rfl
          rw [g0, g1, g2, g3, g4, g5, g6, g7, g8, g9, g10, g11, g12, g13, g14, g15, g16, g17, g18, g19, g20, g21, g22, g23, g24, g25, g26, g27, g28, g29, g30, g31, g32, g33, g34, g35, g36, g37, g38, g39, g40, g41, g42, g43, g44, g45, g46, g47, g48, g49, g50, g51, g52, g53, g54, g55, g56, g57, g58, g59, g60, g61, g62, g63, g64, g65, g66, g67, g68, g69, g70, g71, g72, g73, g74, g75, g76, g77, g78, g79, g80, g81, g82, g83, g84, g85, g86, g87, g88, g89] at hl
          clear g0 g1 g2 g3 g4 g5 g6 g7 g8 g9 g10 g11 g12 g13 g14 g15 g16 g17 g18 g19 g20 g21 g22 g23 g24 g25 g26 g27 g28 g29 g30 g31 g32 g33 g34 g35 g36 g37 g38 g39 g40 g41 g42 g43 g44 g45 g46 g47 g48 g49 g50 g51 g52 g53 g54 g55 g56 g57 g58 g59 g60 g61 g62 g63 g64 g65 g66 g67 g68 g69 g70 g71 g72 g73 g74 g75 g76 g77 g78 g79 g80 g81 g82 g83 g84 g85 g86 g87 g88 g89 hsz
          subst hl
          go_wp2
          refine bodyPost_ret (results_tmp3 rfl _ _ _) rfl ?_
          first | exact (HNo _).out HN.out (below_draws (Below.refl _ _) _) | (obtain ⟨z1, z2, z3, z4, z5, z6, q1, q2, q3⟩ := (HNo _).out HN.out (below_draws (Below.refl _ _) _); exact ⟨z1, z2, z3, z4, ⟨z5, q1⟩, ⟨z6, q2⟩, q3⟩)
      · rw [hv] at HS HLD
        clear hv
        by_cases he : nk = m0
        · have HA2 : Hid (alls (wlP ls) (k + 1) = true) := Lib.hid (by rw [HS.out, decide_eq_true he]; rfl)
          have hei : (nk : Int) = (m0 : Int) := by omega
          have heq : ((nk : Int) != (m0 : Int)) = false := by rw [hei]; simp
          clear HS he
          go_upto_region 6 with fail
          refine wp_region_inv3 (fun iq v => match iq with
            | 0 => v = .slice (some ⟨b, off, none⟩) ls.length cap
            | 1 => v = .int .i64 k
            | 2 => v = .pointer (some ⟨b, off + k, none⟩)
            | 3 => v = .slice Ak nk ck
            | 4 => v = .bool true
            | 5 => v = .bool false
            | 6 => v = .bool false
            | 7 => v = .slice (some ⟨b, off, none⟩) ls.length cap
            | 8 => v = .int .i64 k
            | 9 => v = .pointer (some ⟨b, off + k, none⟩)
            | 10 => v = .slice Ak nk ck
            | 11 => v = .int .i64 nk
            | 12 => v = .slice (some ⟨b, off, none⟩) ls.length cap
            | 13 => v = .pointer (some ⟨b, off, none⟩)
            | 14 => v = .slice A0 m0 c0
            | 15 => v = .int .i64 m0
            | 16 => v = .bool false
            | 17 => v = .bool false
            | _ => False) (fun _ ww => ∃ nq, ww = w.drewN nq) (by kernel_rfl) (by kernel_rfl) ⟨nn + 1, by first | rfl | (simp only [World.drewN_drewN]; rfl)⟩ ?hop ?hend
          case hop =>
            intro q o hq listed act w3 hI hnot hcl hall
            obtain ⟨nq, rfl⟩ := hI.cls
            rcases q with _ | _ | _ | _ | _ | _ | _ | _ | _ | _ | _ | _ | _ | _ | _ | _ | _ | _ | q
            · simp at hq; subst hq
              have g0 : act.tmps[0]?.getD undef = .slice (some ⟨b, off, none⟩) ls.length cap := hI.kept 0 (by kernel_rfl)
              clear hI hall hnot hcl
              refine .inl ⟨wanted_none rfl, ?_⟩
              unfold Oper.wp
              go_simp
              all_goals exact ⟨_, rfl, rfl, ⟨_, rfl⟩⟩
            · simp at hq; subst hq
              have g5 : act.tmps[5]?.getD undef = .int .i64 k := hI.kept 5 (by kernel_rfl)
              clear hI hall hnot hcl
              refine .inl ⟨wanted_none rfl, ?_⟩
              unfold Oper.wp
              go_simp
              all_goals exact ⟨_, rfl, rfl, ⟨_, rfl⟩⟩
            · simp at hq; subst hq
              have g23 : act.tmps[23]?.getD undef = .slice (some ⟨b, off, none⟩) ls.length cap := hI.has 0 23 rfl (hall ⟨0, .data⟩ (by simp) rfl)
              have g24 : act.tmps[24]?.getD undef = .int .i64 k := hI.has 1 24 rfl (hall ⟨1, .data⟩ (by simp) rfl)
              clear hI hall hnot hcl
              refine .inl ⟨wanted_none rfl, ?_⟩
              unfold Oper.wp
              go_simp
              all_goals exact ⟨_, rfl, rfl, ⟨_, rfl⟩⟩
            · simp at hq; subst hq
              have g25 : act.tmps[25]?.getD undef = .pointer (some ⟨b, off + k, none⟩) := hI.has 2 25 rfl (hall ⟨2, .data⟩ (by simp) rfl)
              clear hI hall hnot hcl
              refine .inl ⟨wanted_none rfl, ?_⟩
              unfold Oper.wp
              go_simp
              all_goals exact ⟨_, rfl, rfl, ⟨_, rfl⟩⟩
            · simp at hq; subst hq
              have g26 : act.tmps[26]?.getD undef = .slice Ak nk ck := hI.has 3 26 rfl (hall ⟨3, .data⟩ (by simp) rfl)
              clear hI hall hnot hcl
              refine .inl ⟨wanted_none rfl, ?_⟩
              unfold Oper.wp
              go_simp
              refine (HLD.out _).mono ?_
              rintro e w4 ⟨he, n4, hw4⟩
              subst he
              subst hw4
              exact ⟨_, rfl, rfl, by first | exact ⟨_, rfl⟩ | exact hdd _ _⟩
            · simp at hq; subst hq
              have g27 : act.tmps[27]?.getD undef = .bool true := hI.has 4 27 rfl (hall ⟨4, .data⟩ (by simp) rfl)
              clear hI hall hnot hcl
              refine .inl ⟨wanted_none rfl, ?_⟩
              unfold Oper.wp
              go_simp
              all_goals exact ⟨_, rfl, rfl, ⟨_, rfl⟩⟩
            · simp at hq; subst hq
              have g28 : act.tmps[28]?.getD undef = .bool false := hI.has 5 28 rfl (hall ⟨5, .data⟩ (by simp) rfl)
              clear hI hall hnot hcl
              refine .inl ⟨wanted_none rfl, ?_⟩
              unfold Oper.wp
              go_simp
              all_goals exact ⟨_, rfl, rfl, ⟨_, rfl⟩⟩
            · simp at hq; subst hq
              have gg : act.tmps[29]?.getD undef = .bool false := hI.has 6 29 rfl (hall ⟨6, .guard⟩ (by simp) rfl)
              have g0 : act.tmps[0]?.getD undef = .slice (some ⟨b, off, none⟩) ls.length cap := hI.kept 0 (by kernel_rfl)
              clear hI hall hnot hcl
              refine .inl ⟨(wanted_of rfl rfl gg).trans rfl, ?_⟩
              clear gg
              unfold Oper.wp
              go_simp
              all_goals exact ⟨_, rfl, rfl, ⟨_, rfl⟩⟩
            · simp at hq; subst hq
              have gg : act.tmps[29]?.getD undef = .bool false := hI.has 6 29 rfl (hall ⟨6, .guard⟩ (by simp) rfl)
              have g5 : act.tmps[5]?.getD undef = .int .i64 k := hI.kept 5 (by kernel_rfl)
              clear hI hall hnot hcl
              refine .inl ⟨(wanted_of rfl rfl gg).trans rfl, ?_⟩
              clear gg
              unfold Oper.wp
              go_simp
              all_goals exact ⟨_, rfl, rfl, ⟨_, rfl⟩⟩
            · simp at hq; subst hq
              have gg : act.tmps[29]?.getD undef = .bool false := hI.has 6 29 rfl (hall ⟨6, .guard⟩ (by simp) rfl)
              have g30 : act.tmps[30]?.getD undef = .slice (some ⟨b, off, none⟩) ls.length cap := hI.has 7 30 rfl (hall ⟨7, .data⟩ (by simp) rfl)
              have g31 : act.tmps[31]?.getD undef = .int .i64 k := hI.has 8 31 rfl (hall ⟨8, .data⟩ (by simp) rfl)
              clear hI hall hnot hcl
              refine .inl ⟨(wanted_of rfl rfl gg).trans rfl, ?_⟩
              clear gg
              unfold Oper.wp
              go_simp
              all_goals exact ⟨_, rfl, rfl, ⟨_, rfl⟩⟩
            · simp at hq; subst hq
              have gg : act.tmps[29]?.getD undef = .bool false := hI.has 6 29 rfl (hall ⟨6, .guard⟩ (by simp) rfl)
              have g32 : act.tmps[32]?.getD undef = .pointer (some ⟨b, off + k, none⟩) := hI.has 9 32 rfl (hall ⟨9, .data⟩ (by simp) rfl)
              clear hI hall hnot hcl
              refine .inl ⟨(wanted_of rfl rfl gg).trans rfl, ?_⟩
              clear gg
              unfold Oper.wp
              go_simp
              all_goals exact ⟨_, rfl, rfl, ⟨_, rfl⟩⟩
            · simp at hq; subst hq
              have gg : act.tmps[29]?.getD undef = .bool false := hI.has 6 29 rfl (hall ⟨6, .guard⟩ (by simp) rfl)
              have g33 : act.tmps[33]?.getD undef = .slice Ak nk ck := hI.has 10 33 rfl (hall ⟨10, .data⟩ (by simp) rfl)
              clear hI hall hnot hcl
              refine .inl ⟨(wanted_of rfl rfl gg).trans rfl, ?_⟩
              clear gg
              unfold Oper.wp
              go_simp
              all_goals exact ⟨_, rfl, rfl, ⟨_, rfl⟩⟩
            · simp at hq; subst hq
              have gg : act.tmps[29]?.getD undef = .bool false := hI.has 6 29 rfl (hall ⟨6, .guard⟩ (by simp) rfl)
              have g0 : act.tmps[0]?.getD undef = .slice (some ⟨b, off, none⟩) ls.length cap := hI.kept 0 (by kernel_rfl)
              clear hI hall hnot hcl
              refine .inl ⟨(wanted_of rfl rfl gg).trans rfl, ?_⟩
              clear gg
              unfold Oper.wp
              go_simp
              all_goals exact ⟨_, rfl, rfl, ⟨_, rfl⟩⟩
            · simp at hq; subst hq
              have gg : act.tmps[29]?.getD undef = .bool false := hI.has 6 29 rfl (hall ⟨6, .guard⟩ (by simp) rfl)
              have g35 : act.tmps[35]?.getD undef = .slice (some ⟨b, off, none⟩) ls.length cap := hI.has 12 35 rfl (hall ⟨12, .data⟩ (by simp) rfl)
              clear hI hall hnot hcl
              refine .inl ⟨(wanted_of rfl rfl gg).trans rfl, ?_⟩
              clear gg
              unfold Oper.wp
              go_simp
              all_goals exact ⟨_, rfl, rfl, ⟨_, rfl⟩⟩
            · simp at hq; subst hq
              have gg : act.tmps[29]?.getD undef = .bool false := hI.has 6 29 rfl (hall ⟨6, .guard⟩ (by simp) rfl)
              have g36 : act.tmps[36]?.getD undef = .pointer (some ⟨b, off, none⟩) := hI.has 13 36 rfl (hall ⟨13, .data⟩ (by simp) rfl)
              clear hI hall hnot hcl
              refine .inl ⟨(wanted_of rfl rfl gg).trans rfl, ?_⟩
              clear gg
              unfold Oper.wp
              go_simp
              all_goals exact ⟨_, rfl, rfl, ⟨_, rfl⟩⟩
            · simp at hq; subst hq
              have gg : act.tmps[29]?.getD undef = .bool false := hI.has 6 29 rfl (hall ⟨6, .guard⟩ (by simp) rfl)
              have g37 : act.tmps[37]?.getD undef = .slice A0 m0 c0 := hI.has 14 37 rfl (hall ⟨14, .data⟩ (by simp) rfl)
              clear hI hall hnot hcl
              refine .inl ⟨(wanted_of rfl rfl gg).trans rfl, ?_⟩
              clear gg
              unfold Oper.wp
              go_simp
              all_goals exact ⟨_, rfl, rfl, ⟨_, rfl⟩⟩
            · simp at hq; subst hq
              have gg : act.tmps[29]?.getD undef = .bool false := hI.has 6 29 rfl (hall ⟨6, .guard⟩ (by simp) rfl)
              have g34 : act.tmps[34]?.getD undef = .int .i64 nk := hI.has 11 34 rfl (hall ⟨11, .data⟩ (by simp) rfl)
              have g38 : act.tmps[38]?.getD undef = .int .i64 m0 := hI.has 15 38 rfl (hall ⟨15, .data⟩ (by simp) rfl)
              clear hI hall hnot hcl
              refine .inl ⟨(wanted_of rfl rfl gg).trans rfl, ?_⟩
              clear gg
              unfold Oper.wp
              go_simp
              all_goals first | exact ⟨_, rfl, rfl, ⟨_, rfl⟩⟩ | exact ⟨_, rfl, by simp [heq], ⟨_, rfl⟩⟩ | exact ⟨_, rfl, by simp [hei], ⟨_, rfl⟩⟩
            · simp at hq; subst hq
              have g29 : act.tmps[29]?.getD undef = .bool false := hI.has 6 29 rfl (hall ⟨6, .data⟩ (by simp) rfl)
              have g39 : act.tmps[39]?.getD undef = .bool false := hI.has 16 39 rfl (hall ⟨16, .data⟩ (by simp) rfl)
              clear hI hall hnot hcl
              refine .inl ⟨wanted_none rfl, ?_⟩
              unfold Oper.wp
              go_simp
              all_goals exact ⟨_, rfl, rfl, ⟨_, rfl⟩⟩
            · simp at hq
          case hend =>
            intro listed act w3 hI hall
            obtain ⟨nq, rfl⟩ := hI.cls
            have g40 : act.tmps[40]?.getD undef = .bool false := hI.has 17 40 rfl (hall 17 (by decide))
            first | have g0 : act.tmps[0]?.getD undef = undef := hI.kept 0 (by kernel_rfl) | (have g0 := hI.kept 0 (by kernel_rfl); conv at g0 => rhs; whnf)
            first | have g1 : act.tmps[1]?.getD undef = undef := hI.kept 1 (by kernel_rfl) | (have g1 := hI.kept 1 (by kernel_rfl); conv at g1 => rhs; whnf)
            first | have g2 : act.tmps[2]?.getD undef = undef := hI.kept 2 (by kernel_rfl) | (have g2 := hI.kept 2 (by kernel_rfl); conv at g2 => rhs; whnf)
            first | have g3 : act.tmps[3]?.getD undef = undef := hI.kept 3 (by kernel_rfl) | (have g3 := hI.kept 3 (by kernel_rfl); conv at g3 => rhs; whnf)
            first | have g4 : act.tmps[4]?.getD undef = undef := hI.kept 4 (by kernel_rfl) | (have g4 := hI.kept 4 (by kernel_rfl); conv at g4 => rhs; whnf)
            first | have g5 : act.tmps[5]?.getD undef = undef := hI.kept 5 (by kernel_rfl) | (have g5 := hI.kept 5 (by kernel_rfl); conv at g5 => rhs; whnf)
            first | have g6 : act.tmps[6]?.getD undef = undef := hI.kept 6 (by kernel_rfl) | (have g6 := hI.kept 6 (by kernel_rfl); conv at g6 => rhs; whnf)
            first | have g7 : act.tmps[7]?.getD undef = undef := hI.kept 7 (by kernel_rfl) | (have g7 := hI.kept 7 (by kernel_rfl); conv at g7 => rhs; whnf)
            first | have g8 : act.tmps[8]?.getD undef = undef := hI.kept 8 (by kernel_rfl) | (have g8 := hI.kept 8 (by kernel_rfl); conv at g8 => rhs; whnf)
            first | have g9 : act.tmps[9]?.getD undef = undef := hI.kept 9 (by kernel_rfl) | (have g9 := hI.kept 9 (by kernel_rfl); conv at g9 => rhs; whnf)
            first | have g10 : act.tmps[10]?.getD undef = undef := hI.kept 10 (by kernel_rfl) | (have g10 := hI.kept 10 (by kernel_rfl); conv at g10 => rhs; whnf)
            first | have g11 : act.tmps[11]?.getD undef = undef := hI.kept 11 (by kernel_rfl) | (have g11 := hI.kept 11 (by kernel_rfl); conv at g11 => rhs; whnf)
            first | have g12 : act.tmps[12]?.getD undef = undef := hI.kept 12 (by kernel_rfl) | (have g12 := hI.kept 12 (by kernel_rfl); conv at g12 => rhs; whnf)
            first | have g13 : act.tmps[13]?.getD undef = undef := hI.kept 13 (by kernel_rfl) | (have g13 := hI.kept 13 (by kernel_rfl); conv at g13 => rhs; whnf)
            first | have g14 : act.tmps[14]?.getD undef = undef := hI.kept 14 (by kernel_rfl) | (have g14 := hI.kept 14 (by kernel_rfl); conv at g14 => rhs; whnf)
            first | have g15 : act.tmps[15]?.getD undef = undef := hI.kept 15 (by kernel_rfl) | (have g15 := hI.kept 15 (by kernel_rfl); conv at g15 => rhs; whnf)
            first | have g16 : act.tmps[16]?.getD undef = undef := hI.kept 16 (by kernel_rfl) | (have g16 := hI.kept 16 (by kernel_rfl); conv at g16 => rhs; whnf)
            first | have g17 : act.tmps[17]?.getD undef = undef := hI.kept 17 (by kernel_rfl) | (have g17 := hI.kept 17 (by kernel_rfl); conv at g17 => rhs; whnf)
            first | have g18 : act.tmps[18]?.getD undef = undef := hI.kept 18 (by kernel_rfl) | (have g18 := hI.kept 18 (by kernel_rfl); conv at g18 => rhs; whnf)
            first | have g19 : act.tmps[19]?.getD undef = undef := hI.kept 19 (by kernel_rfl) | (have g19 := hI.kept 19 (by kernel_rfl); conv at g19 => rhs; whnf)
            first | have g20 : act.tmps[20]?.getD undef = undef := hI.kept 20 (by kernel_rfl) | (have g20 := hI.kept 20 (by kernel_rfl); conv at g20 => rhs; whnf)
            first | have g21 : act.tmps[21]?.getD undef = undef := hI.kept 21 (by kernel_rfl) | (have g21 := hI.kept 21 (by kernel_rfl); conv at g21 => rhs; whnf)
            first | have g22 : act.tmps[22]?.getD undef = undef := hI.kept 22 (by kernel_rfl) | (have g22 := hI.kept 22 (by kernel_rfl); conv at g22 => rhs; whnf)
            first | have g41 : act.tmps[41]?.getD undef = undef := hI.kept 41 (by kernel_rfl) | (have g41 := hI.kept 41 (by kernel_rfl); conv at g41 => rhs; whnf)
            first | have g42 : act.tmps[42]?.getD undef = undef := hI.kept 42 (by kernel_rfl) | (have g42 := hI.kept 42 (by kernel_rfl); conv at g42 => rhs; whnf)
            first | have g43 : act.tmps[43]?.getD undef = undef := hI.kept 43 (by kernel_rfl) | (have g43 := hI.kept 43 (by kernel_rfl); conv at g43 => rhs; whnf)
            first | have g44 : act.tmps[44]?.getD undef = undef := hI.kept 44 (by kernel_rfl) | (have g44 := hI.kept 44 (by kernel_rfl); conv at g44 => rhs; whnf)
            first | have g45 : act.tmps[45]?.getD undef = undef := hI.kept 45 (by kernel_rfl) | (have g45 := hI.kept 45 (by kernel_rfl); conv at g45 => rhs; whnf)
            first | have g46 : act.tmps[46]?.getD undef = undef := hI.kept 46 (by kernel_rfl) | (have g46 := hI.kept 46 (by kernel_rfl); conv at g46 => rhs; whnf)
            first | have g47 : act.tmps[47]?.getD undef = undef := hI.kept 47 (by kernel_rfl) | (have g47 := hI.kept 47 (by kernel_rfl); conv at g47 => rhs; whnf)
            first | have g48 : act.tmps[48]?.getD undef = undef := hI.kept 48 (by kernel_rfl) | (have g48 := hI.kept 48 (by kernel_rfl); conv at g48 => rhs; whnf)
            first | have g49 : act.tmps[49]?.getD undef = undef := hI.kept 49 (by kernel_rfl) | (have g49 := hI.kept 49 (by kernel_rfl); conv at g49 => rhs; whnf)
            first | have g50 : act.tmps[50]?.getD undef = undef := hI.kept 50 (by kernel_rfl) | (have g50 := hI.kept 50 (by kernel_rfl); conv at g50 => rhs; whnf)
            first | have g51 : act.tmps[51]?.getD undef = undef := hI.kept 51 (by kernel_rfl) | (have g51 := hI.kept 51 (by kernel_rfl); conv at g51 => rhs; whnf)
            first | have g52 : act.tmps[52]?.getD undef = undef := hI.kept 52 (by kernel_rfl) | (have g52 := hI.kept 52 (by kernel_rfl); conv at g52 => rhs; whnf)
            first | have g53 : act.tmps[53]?.getD undef = undef := hI.kept 53 (by kernel_rfl) | (have g53 := hI.kept 53 (by kernel_rfl); conv at g53 => rhs; whnf)
            first | have g54 : act.tmps[54]?.getD undef = undef := hI.kept 54 (by kernel_rfl) | (have g54 := hI.kept 54 (by kernel_rfl); conv at g54 => rhs; whnf)
            first | have g55 : act.tmps[55]?.getD undef = undef := hI.kept 55 (by kernel_rfl) | (have g55 := hI.kept 55 (by kernel_rfl); conv at g55 => rhs; whnf)
            first | have g56 : act.tmps[56]?.getD undef = undef := hI.kept 56 (by kernel_rfl) | (have g56 := hI.kept 56 (by kernel_rfl); conv at g56 => rhs; whnf)
            first | have g57 : act.tmps[57]?.getD undef = undef := hI.kept 57 (by kernel_rfl) | (have g57 := hI.kept 57 (by kernel_rfl); conv at g57 => rhs; whnf)
            first | have g58 : act.tmps[58]?.getD undef = undef := hI.kept 58 (by kernel_rfl) | (have g58 := hI.kept 58 (by kernel_rfl); conv at g58 => rhs; whnf)
            first | have g59 : act.tmps[59]?.getD undef = undef := hI.kept 59 (by kernel_rfl) | (have g59 := hI.kept 59 (by kernel_rfl); conv at g59 => rhs; whnf)
            first | have g60 : act.tmps[60]?.getD undef = undef := hI.kept 60 (by kernel_rfl) | (have g60 := hI.kept 60 (by kernel_rfl); conv at g60 => rhs; whnf)
            first | have g61 : act.tmps[61]?.getD undef = undef := hI.kept 61 (by kernel_rfl) | (have g61 := hI.kept 61 (by kernel_rfl); conv at g61 => rhs; whnf)
            first | have g62 : act.tmps[62]?.getD undef = undef := hI.kept 62 (by kernel_rfl) | (have g62 := hI.kept 62 (by kernel_rfl); conv at g62 => rhs; whnf)
            first | have g63 : act.tmps[63]?.getD undef = undef := hI.kept 63 (by kernel_rfl) | (have g63 := hI.kept 63 (by kernel_rfl); conv at g63 => rhs; whnf)
            first | have g64 : act.tmps[64]?.getD undef = undef := hI.kept 64 (by kernel_rfl) | (have g64 := hI.kept 64 (by kernel_rfl); conv at g64 => rhs; whnf)
            first | have g65 : act.tmps[65]?.getD undef = undef := hI.kept 65 (by kernel_rfl) | (have g65 := hI.kept 65 (by kernel_rfl); conv at g65 => rhs; whnf)
            first | have g66 : act.tmps[66]?.getD undef = undef := hI.kept 66 (by kernel_rfl) | (have g66 := hI.kept 66 (by kernel_rfl); conv at g66 => rhs; whnf)
            first | have g67 : act.tmps[67]?.getD undef = undef := hI.kept 67 (by kernel_rfl) | (have g67 := hI.kept 67 (by kernel_rfl); conv at g67 => rhs; whnf)
            first | have g68 : act.tmps[68]?.getD undef = undef := hI.kept 68 (by kernel_rfl) | (have g68 := hI.kept 68 (by kernel_rfl); conv at g68 => rhs; whnf)
            first | have g69 : act.tmps[69]?.getD undef = undef := hI.kept 69 (by kernel_rfl) | (have g69 := hI.kept 69 (by kernel_rfl); conv at g69 => rhs; whnf)
            first | have g70 : act.tmps[70]?.getD undef = undef := hI.kept 70 (by kernel_rfl) | (have g70 := hI.kept 70 (by kernel_rfl); conv at g70 => rhs; whnf)
            first | have g71 : act.tmps[71]?.getD undef = undef := hI.kept 71 (by kernel_rfl) | (have g71 := hI.kept 71 (by kernel_rfl); conv at g71 => rhs; whnf)
            first | have g72 : act.tmps[72]?.getD undef = undef := hI.kept 72 (by kernel_rfl) | (have g72 := hI.kept 72 (by kernel_rfl); conv at g72 => rhs; whnf)
            first | have g73 : act.tmps[73]?.getD undef = undef := hI.kept 73 (by kernel_rfl) | (have g73 := hI.kept 73 (by kernel_rfl); conv at g73 => rhs; whnf)
            first | have g74 : act.tmps[74]?.getD undef = undef := hI.kept 74 (by kernel_rfl) | (have g74 := hI.kept 74 (by kernel_rfl); conv at g74 => rhs; whnf)
            first | have g75 : act.tmps[75]?.getD undef = undef := hI.kept 75 (by kernel_rfl) | (have g75 := hI.kept 75 (by kernel_rfl); conv at g75 => rhs; whnf)
            first | have g76 : act.tmps[76]?.getD undef = undef := hI.kept 76 (by kernel_rfl) | (have g76 := hI.kept 76 (by kernel_rfl); conv at g76 => rhs; whnf)
            first | have g77 : act.tmps[77]?.getD undef = undef := hI.kept 77 (by kernel_rfl) | (have g77 := hI.kept 77 (by kernel_rfl); conv at g77 => rhs; whnf)
            first | have g78 : act.tmps[78]?.getD undef = undef := hI.kept 78 (by kernel_rfl) | (have g78 := hI.kept 78 (by kernel_rfl); conv at g78 => rhs; whnf)
            first | have g79 : act.tmps[79]?.getD undef = undef := hI.kept 79 (by kernel_rfl) | (have g79 := hI.kept 79 (by kernel_rfl); conv at g79 => rhs; whnf)
            first | have g80 : act.tmps[80]?.getD undef = undef := hI.kept 80 (by kernel_rfl) | (have g80 := hI.kept 80 (by kernel_rfl); conv at g80 => rhs; whnf)
            first | have g81 : act.tmps[81]?.getD undef = undef := hI.kept 81 (by kernel_rfl) | (have g81 := hI.kept 81 (by kernel_rfl); conv at g81 => rhs; whnf)
            first | have g82 : act.tmps[82]?.getD undef = undef := hI.kept 82 (by kernel_rfl) | (have g82 := hI.kept 82 (by kernel_rfl); conv at g82 => rhs; whnf)
            first | have g83 : act.tmps[83]?.getD undef = undef := hI.kept 83 (by kernel_rfl) | (have g83 := hI.kept 83 (by kernel_rfl); conv at g83 => rhs; whnf)
            first | have g84 : act.tmps[84]?.getD undef = undef := hI.kept 84 (by kernel_rfl) | (have g84 := hI.kept 84 (by kernel_rfl); conv at g84 => rhs; whnf)
            first | have g85 : act.tmps[85]?.getD undef = undef := hI.kept 85 (by kernel_rfl) | (have g85 := hI.kept 85 (by kernel_rfl); conv at g85 => rhs; whnf)
            first | have g86 : act.tmps[86]?.getD undef = undef := hI.kept 86 (by kernel_rfl) | (have g86 := hI.kept 86 (by kernel_rfl); conv at g86 => rhs; whnf)
            first | have g87 : act.tmps[87]?.getD undef = undef := hI.kept 87 (by kernel_rfl) | (have g87 := hI.kept 87 (by kernel_rfl); conv at g87 => rhs; whnf)
            first | have g88 : act.tmps[88]?.getD undef = undef := hI.kept 88 (by kernel_rfl) | (have g88 := hI.kept 88 (by kernel_rfl); conv at g88 => rhs; whnf)
            first | have g89 : act.tmps[89]?.getD undef = undef := hI.kept 89 (by kernel_rfl) | (have g89 := hI.kept 89 (by kernel_rfl); conv at g89 => rhs; whnf)
            have g23 := hI.has 0 23 rfl (hall 0 (by decide))
            have g24 := hI.has 1 24 rfl (hall 1 (by decide))
            have g25 := hI.has 2 25 rfl (hall 2 (by decide))
            have g26 := hI.has 3 26 rfl (hall 3 (by decide))
            have g27 := hI.has 4 27 rfl (hall 4 (by decide))
            have g28 := hI.has 5 28 rfl (hall 5 (by decide))
            have g29 := hI.has 6 29 rfl (hall 6 (by decide))
            have g30 := hI.has 7 30 rfl (hall 7 (by decide))
            have g31 := hI.has 8 31 rfl (hall 8 (by decide))
            have g32 := hI.has 9 32 rfl (hall 9 (by decide))
            have g33 := hI.has 10 33 rfl (hall 10 (by decide))
            have g34 := hI.has 11 34 rfl (hall 11 (by decide))
            have g35 := hI.has 12 35 rfl (hall 12 (by decide))
            have g36 := hI.has 13 36 rfl (hall 13 (by decide))
            have g37 := hI.has 14 37 rfl (hall 14 (by decide))
            have g38 := hI.has 15 38 rfl (hall 15 (by decide))
            have g39 := hI.has 16 39 rfl (hall 16 (by decide))
            have hsz : act.tmps.size = 90 := hI.size.trans (by kernel_rfl)
            have hd := hI.defers
            clear hI hall hdd
            obtain ⟨tt, dd⟩ := act
            simp only at g0 g1 g2 g3 g4 g5 g6 g7 g8 g9 g10 g11 g12 g13 g14 g15 g16 g17 g18 g19 g20 g21 g22 g23 g24 g25 g26 g27 g28 g29 g30 g31 g32 g33 g34 g35 g36 g37 g38 g39 g40 g41 g42 g43 g44 g45 g46 g47 g48 g49 g50 g51 g52 g53 g54 g55 g56 g57 g58 g59 g60 g61 g62 g63 g64 g65 g66 g67 g68 g69 g70 g71 g72 g73 g74 g75 g76 g77 g78 g79 g80 g81 g82 g83 g84 g85 g86 g87 g88 g89 hsz hd
            subst hd
            have hl : tt = #[tt[0]?.getD undef, tt[1]?.getD undef, tt[2]?.getD undef, tt[3]?.getD undef, tt[4]?.getD undef, tt[5]?.getD undef, tt[6]?.getD undef, tt[7]?.getD undef, tt[8]?.getD undef, tt[9]?.getD undef, tt[10]?.getD undef, tt[11]?.getD undef, tt[12]?.getD undef, tt[13]?.getD undef, tt[14]?.getD undef, tt[15]?.getD undef, tt[16]?.getD undef, tt[17]?.getD undef, tt[18]?.getD undef, tt[19]?.getD undef, tt[20]?.getD undef, tt[21]?.getD undef, tt[22]?.getD undef, tt[23]?.getD undef, tt[24]?.getD undef, tt[25]?.getD undef, tt[26]?.getD undef, tt[27]?.getD undef, tt[28]?.getD undef, tt[29]?.getD undef, tt[30]?.getD undef, tt[31]?.getD undef, tt[32]?.getD undef, tt[33]?.getD undef, tt[34]?.getD undef, tt[35]?.getD undef, tt[36]?.getD undef, tt[37]?.getD undef, tt[38]?.getD undef, tt[39]?.getD undef, tt[40]?.getD undef, tt[41]?.getD undef, tt[42]?.getD undef, tt[43]?.getD undef, tt[44]?.getD undef, tt[45]?.getD undef, tt[46]?.getD undef, tt[47]?.getD undef, tt[48]?.getD undef, tt[49]?.getD undef, tt[50]?.getD undef, tt[51]?.getD undef, tt[52]?.getD undef, tt[53]?.getD undef, tt[54]?.getD undef, tt[55]?.getD undef, tt[56]?.getD undef, tt[57]?.getD undef, tt[58]?.getD undef, tt[59]?.getD undef, tt[60]?.getD undef, tt[61]?.getD undef, tt[62]?.getD undef, tt[63]?.getD undef, tt[64]?.getD undef, tt[65]?.getD undef, tt[66]?.getD undef, tt[67]?.getD undef, tt[68]?.getD undef, tt[69]?.getD undef, tt[70]?.getD undef, tt[71]?.getD undef, tt[72]?.getD undef, tt[73]?.getD undef, tt[74]?.getD undef, tt[75]?.getD undef, tt[76]?.getD undef, tt[77]?.getD undef, tt[78]?.getD undef, tt[79]?.getD undef, tt[80]?.getD undef, tt[81]?.getD undef, tt[82]?.getD undef, tt[83]?.getD undef, tt[84]?.getD undef, tt[85]?.getD undef, tt[86]?.getD undef, tt[87]?.getD undef, tt[88]?.getD undef, tt[89]?.getD undef] := (arr_lit hsz).trans rfl
            rw [g0, g1, g2, g3, g4, g5, g6, g7, g8, g9, g10, g11, g12, g13, g14, g15, g16, g17, g18, g19, g20, g21, g22, g23, g24, g25, g26, g27, g28, g29, g30, g31, g32, g33, g34, g35, g36, g37, g38, g39, g40, g41, g42, g43, g44, g45, g46, g47, g48, g49, g50, g51, g52, g53, g54, g55, g56, g57, g58, g59, g60, g61, g62, g63, g64, g65, g66, g67, g68, g69, g70, g71, g72, g73, g74, g75, g76, g77, g78, g79, g80, g81, g82, g83, g84, g85, g86, g87, g88, g89] at hl
            clear g0 g1 g2 g3 g4 g5 g6 g7 g8 g9 g10 g11 g12 g13 g14 g15 g16 g17 g18 g19 g20 g21 g22 g23 g24 g25 g26 g27 g28 g29 g30 g31 g32 g33 g34 g35 g36 g37 g38 g39 g40 g41 g42 g43 g44 g45 g46 g47 g48 g49 g50 g51 g52 g53 g54 g55 g56 g57 g58 g59 g60 g61 g62 g63 g64 g65 g66 g67 g68 g69 g70 g71 g72 g73 g74 g75 g76 g77 g78 g79 g80 g81 g82 g83 g84 g85 g86 g87 g88 g89 hsz
            subst hl
            go_wp2
            go_roundw
            case rel => exact ⟨k + 1, _, by omega, by go_num, HA2, by first | rfl | (simp only [World.drewN_drewN]; rfl)⟩
            case measure => simp [intOf]; omega
        · have HN : Hid (wlC ls = false) := Lib.hid (wlC_a (k := k + 1) (by rw [HS.out, decide_eq_false he, Bool.and_false]) (by omega))
          have hei : ¬ (nk : Int) = (m0 : Int) := by omega
          have heq : ((nk : Int) != (m0 : Int)) = true := by simpa using hei
          clear HS he
          go_upto_region 6 with fail
          refine wp_region_inv3 (fun iq v => match iq with
            | 0 => v = .slice (some ⟨b, off, none⟩) ls.length cap
            | 1 => v = .int .i64 k
            | 2 => v = .pointer (some ⟨b, off + k, none⟩)
            | 3 => v = .slice Ak nk ck
            | 4 => v = .bool true
            | 5 => v = .bool false
            | 6 => v = .bool false
            | 7 => v = .slice (some ⟨b, off, none⟩) ls.length cap
            | 8 => v = .int .i64 k
            | 9 => v = .pointer (some ⟨b, off + k, none⟩)
            | 10 => v = .slice Ak nk ck
            | 11 => v = .int .i64 nk
            | 12 => v = .slice (some ⟨b, off, none⟩) ls.length cap
            | 13 => v = .pointer (some ⟨b, off, none⟩)
            | 14 => v = .slice A0 m0 c0
            | 15 => v = .int .i64 m0
            | 16 => v = .bool true
            | 17 => v = .bool true
            | _ => False) (fun _ ww => ∃ nq, ww = w.drewN nq) (by kernel_rfl) (by kernel_rfl) ⟨nn + 1, by first | rfl | (simp only [World.drewN_drewN]; rfl)⟩ ?hop ?hend
          case hop =>
            intro q o hq listed act w3 hI hnot hcl hall
            obtain ⟨nq, rfl⟩ := hI.cls
            rcases q with _ | _ | _ | _ | _ | _ | _ | _ | _ | _ | _ | _ | _ | _ | _ | _ | _ | _ | q
            · simp at hq; subst hq
              have g0 : act.tmps[0]?.getD undef = .slice (some ⟨b, off, none⟩) ls.length cap := hI.kept 0 (by kernel_rfl)
              clear hI hall hnot hcl
              refine .inl ⟨wanted_none rfl, ?_⟩
              unfold Oper.wp
              go_simp
              all_goals exact ⟨_, rfl, rfl, ⟨_, rfl⟩⟩
            · simp at hq; subst hq
              have g5 : act.tmps[5]?.getD undef = .int .i64 k := hI.kept 5 (by kernel_rfl)
              clear hI hall hnot hcl
              refine .inl ⟨wanted_none rfl, ?_⟩
              unfold Oper.wp
              go_simp
              all_goals exact ⟨_, rfl, rfl, ⟨_, rfl⟩⟩
            · simp at hq; subst hq
              have g23 : act.tmps[23]?.getD undef = .slice (some ⟨b, off, none⟩) ls.length cap := hI.has 0 23 rfl (hall ⟨0, .data⟩ (by simp) rfl)
              have g24 : act.tmps[24]?.getD undef = .int .i64 k := hI.has 1 24 rfl (hall ⟨1, .data⟩ (by simp) rfl)
              clear hI hall hnot hcl
              refine .inl ⟨wanted_none rfl, ?_⟩
              unfold Oper.wp
              go_simp
              all_goals exact ⟨_, rfl, rfl, ⟨_, rfl⟩⟩
            · simp at hq; subst hq
              have g25 : act.tmps[25]?.getD undef = .pointer (some ⟨b, off + k, none⟩) := hI.has 2 25 rfl (hall ⟨2, .data⟩ (by simp) rfl)
              clear hI hall hnot hcl
              refine .inl ⟨wanted_none rfl, ?_⟩
              unfold Oper.wp
              go_simp
              all_goals exact ⟨_, rfl, rfl, ⟨_, rfl⟩⟩
            · simp at hq; subst hq
              have g26 : act.tmps[26]?.getD undef = .slice Ak nk ck := hI.has 3 26 rfl (hall ⟨3, .data⟩ (by simp) rfl)
              clear hI hall hnot hcl
              refine .inl ⟨wanted_none rfl, ?_⟩
              unfold Oper.wp
              go_simp
              refine (HLD.out _).mono ?_
              rintro e w4 ⟨he, n4, hw4⟩
              subst he
              subst hw4
              exact ⟨_, rfl, rfl, by first | exact ⟨_, rfl⟩ | exact hdd _ _⟩
            · simp at hq; subst hq
              have g27 : act.tmps[27]?.getD undef = .bool true := hI.has 4 27 rfl (hall ⟨4, .data⟩ (by simp) rfl)
              clear hI hall hnot hcl
              refine .inl ⟨wanted_none rfl, ?_⟩
              unfold Oper.wp
              go_simp
              all_goals exact ⟨_, rfl, rfl, ⟨_, rfl⟩⟩
            · simp at hq; subst hq
              have g28 : act.tmps[28]?.getD undef = .bool false := hI.has 5 28 rfl (hall ⟨5, .data⟩ (by simp) rfl)
              clear hI hall hnot hcl
              refine .inl ⟨wanted_none rfl, ?_⟩
              unfold Oper.wp
              go_simp
              all_goals exact ⟨_, rfl, rfl, ⟨_, rfl⟩⟩
            · simp at hq; subst hq
              have gg : act.tmps[29]?.getD undef = .bool false := hI.has 6 29 rfl (hall ⟨6, .guard⟩ (by simp) rfl)
              have g0 : act.tmps[0]?.getD undef = .slice (some ⟨b, off, none⟩) ls.length cap := hI.kept 0 (by kernel_rfl)
              clear hI hall hnot hcl
              refine .inl ⟨(wanted_of rfl rfl gg).trans rfl, ?_⟩
              clear gg
              unfold Oper.wp
              go_simp
              all_goals exact ⟨_, rfl, rfl, ⟨_, rfl⟩⟩
            · simp at hq; subst hq
              have gg : act.tmps[29]?.getD undef = .bool false := hI.has 6 29 rfl (hall ⟨6, .guard⟩ (by simp) rfl)
              have g5 : act.tmps[5]?.getD undef = .int .i64 k := hI.kept 5 (by kernel_rfl)
              clear hI hall hnot hcl
              refine .inl ⟨(wanted_of rfl rfl gg).trans rfl, ?_⟩
              clear gg
              unfold Oper.wp
              go_simp
              all_goals exact ⟨_, rfl, rfl, ⟨_, rfl⟩⟩
            · simp at hq; subst hq
              have gg : act.tmps[29]?.getD undef = .bool false := hI.has 6 29 rfl (hall ⟨6, .guard⟩ (by simp) rfl)
              have g30 : act.tmps[30]?.getD undef = .slice (some ⟨b, off, none⟩) ls.length cap := hI.has 7 30 rfl (hall ⟨7, .data⟩ (by simp) rfl)
              have g31 : act.tmps[31]?.getD undef = .int .i64 k := hI.has 8 31 rfl (hall ⟨8, .data⟩ (by simp) rfl)
              clear hI hall hnot hcl
              refine .inl ⟨(wanted_of rfl rfl gg).trans rfl, ?_⟩
              clear gg
              unfold Oper.wp
              go_simp
              all_goals exact ⟨_, rfl, rfl, ⟨_, rfl⟩⟩
            · simp at hq; subst hq
              have gg : act.tmps[29]?.getD undef = .bool false := hI.has 6 29 rfl (hall ⟨6, .guard⟩ (by simp) rfl)
              have g32 : act.tmps[32]?.getD undef = .pointer (some ⟨b, off + k, none⟩) := hI.has 9 32 rfl (hall ⟨9, .data⟩ (by simp) rfl)
              clear hI hall hnot hcl
              refine .inl ⟨(wanted_of rfl rfl gg).trans rfl, ?_⟩
              clear gg
              unfold Oper.wp
              go_simp
              all_goals exact ⟨_, rfl, rfl, ⟨_, rfl⟩⟩
            · simp at hq; subst hq
              have gg : act.tmps[29]?.getD undef = .bool false := hI.has 6 29 rfl (hall ⟨6, .guard⟩ (by simp) rfl)
              have g33 : act.tmps[33]?.getD undef = .slice Ak nk ck := hI.has 10 33 rfl (hall ⟨10, .data⟩ (by simp) rfl)
              clear hI hall hnot hcl
              refine .inl ⟨(wanted_of rfl rfl gg).trans rfl, ?_⟩
              clear gg
              unfold Oper.wp
              go_simp
              all_goals exact ⟨_, rfl, rfl, ⟨_, rfl⟩⟩
            · simp at hq; subst hq
              have gg : act.tmps[29]?.getD undef = .bool false := hI.has 6 29 rfl (hall ⟨6, .guard⟩ (by simp) rfl)
              have g0 : act.tmps[0]?.getD undef = .slice (some ⟨b, off, none⟩) ls.length cap := hI.kept 0 (by kernel_rfl)
              clear hI hall hnot hcl
              refine .inl ⟨(wanted_of rfl rfl gg).trans rfl, ?_⟩
              clear gg
              unfold Oper.wp
              go_simp
              all_goals exact ⟨_, rfl, rfl, ⟨_, rfl⟩⟩
            · simp at hq; subst hq
              have gg : act.tmps[29]?.getD undef = .bool false := hI.has 6 29 rfl (hall ⟨6, .guard⟩ (by simp) rfl)
              have g35 : act.tmps[35]?.getD undef = .slice (some ⟨b, off, none⟩) ls.length cap := hI.has 12 35 rfl (hall ⟨12, .data⟩ (by simp) rfl)
              clear hI hall hnot hcl
              refine .inl ⟨(wanted_of rfl rfl gg).trans rfl, ?_⟩
              clear gg
              unfold Oper.wp
              go_simp
              all_goals exact ⟨_, rfl, rfl, ⟨_, rfl⟩⟩
            · simp at hq; subst hq
              have gg : act.tmps[29]?.getD undef = .bool false := hI.has 6 29 rfl (hall ⟨6, .guard⟩ (by simp) rfl)
              have g36 : act.tmps[36]?.getD undef = .pointer (some ⟨b, off, none⟩) := hI.has 13 36 rfl (hall ⟨13, .data⟩ (by simp) rfl)
              clear hI hall hnot hcl
              refine .inl ⟨(wanted_of rfl rfl gg).trans rfl, ?_⟩
              clear gg
              unfold Oper.wp
              go_simp
              all_goals exact ⟨_, rfl, rfl, ⟨_, rfl⟩⟩
            · simp at hq; subst hq
              have gg : act.tmps[29]?.getD undef = .bool false := hI.has 6 29 rfl (hall ⟨6, .guard⟩ (by simp) rfl)
              have g37 : act.tmps[37]?.getD undef = .slice A0 m0 c0 := hI.has 14 37 rfl (hall ⟨14, .data⟩ (by simp) rfl)
              clear hI hall hnot hcl
              refine .inl ⟨(wanted_of rfl rfl gg).trans rfl, ?_⟩
              clear gg
              unfold Oper.wp
              go_simp
              all_goals exact ⟨_, rfl, rfl, ⟨_, rfl⟩⟩
            · simp at hq; subst hq
              have gg : act.tmps[29]?.getD undef = .bool false := hI.has 6 29 rfl (hall ⟨6, .guard⟩ (by simp) rfl)
              have g34 : act.tmps[34]?.getD undef = .int .i64 nk := hI.has 11 34 rfl (hall ⟨11, .data⟩ (by simp) rfl)
              have g38 : act.tmps[38]?.getD undef = .int .i64 m0 := hI.has 15 38 rfl (hall ⟨15, .data⟩ (by simp) rfl)
              clear hI hall hnot hcl
              refine .inl ⟨(wanted_of rfl rfl gg).trans rfl, ?_⟩
              clear gg
              unfold Oper.wp
              go_simp
              all_goals first | exact ⟨_, rfl, rfl, ⟨_, rfl⟩⟩ | exact ⟨_, rfl, by simp [heq], ⟨_, rfl⟩⟩ | exact ⟨_, rfl, by simp [hei], ⟨_, rfl⟩⟩
            · simp at hq; subst hq
              have g29 : act.tmps[29]?.getD undef = .bool false := hI.has 6 29 rfl (hall ⟨6, .data⟩ (by simp) rfl)
              have g39 : act.tmps[39]?.getD undef = .bool true := hI.has 16 39 rfl (hall ⟨16, .data⟩ (by simp) rfl)
              clear hI hall hnot hcl
              refine .inl ⟨wanted_none rfl, ?_⟩
              unfold Oper.wp
              go_simp
              all_goals exact ⟨_, rfl, rfl, ⟨_, rfl⟩⟩
            · simp at hq
          case hend =>
            intro listed act w3 hI hall
            obtain ⟨nq, rfl⟩ := hI.cls
            have g40 : act.tmps[40]?.getD undef = .bool true := hI.has 17 40 rfl (hall 17 (by decide))
            first | have g0 : act.tmps[0]?.getD undef = undef := hI.kept 0 (by kernel_rfl) | (have g0 := hI.kept 0 (by kernel_rfl); conv at g0 => rhs; whnf)
            first | have g1 : act.tmps[1]?.getD undef = undef := hI.kept 1 (by kernel_rfl) | (have g1 := hI.kept 1 (by kernel_rfl); conv at g1 => rhs; whnf)
            first | have g2 : act.tmps[2]?.getD undef = undef := hI.kept 2 (by kernel_rfl) | (have g2 := hI.kept 2 (by kernel_rfl); conv at g2 => rhs; whnf)
            first | have g3 : act.tmps[3]?.getD undef = undef := hI.kept 3 (by kernel_rfl) | (have g3 := hI.kept 3 (by kernel_rfl); conv at g3 => rhs; whnf)
            first | have g4 : act.tmps[4]?.getD undef = undef := hI.kept 4 (by kernel_rfl) | (have g4 := hI.kept 4 (by kernel_rfl); conv at g4 => rhs; whnf)
            first | have g5 : act.tmps[5]?.getD undef = undef := hI.kept 5 (by kernel_rfl) | (have g5 := hI.kept 5 (by kernel_rfl); conv at g5 => rhs; whnf)
            first | have g6 : act.tmps[6]?.getD undef = undef := hI.kept 6 (by kernel_rfl) | (have g6 := hI.kept 6 (by kernel_rfl); conv at g6 => rhs; whnf)
            first | have g7 : act.tmps[7]?.getD undef = undef := hI.kept 7 (by kernel_rfl) | (have g7 := hI.kept 7 (by kernel_rfl); conv at g7 => rhs; whnf)
            first | have g8 : act.tmps[8]?.getD undef = undef := hI.kept 8 (by kernel_rfl) | (have g8 := hI.kept 8 (by kernel_rfl); conv at g8 => rhs; whnf)
            first | have g9 : act.tmps[9]?.getD undef = undef := hI.kept 9 (by kernel_rfl) | (have g9 := hI.kept 9 (by kernel_rfl); conv at g9 => rhs; whnf)
            first | have g10 : act.tmps[10]?.getD undef = undef := hI.kept 10 (by kernel_rfl) | (have g10 := hI.kept 10 (by kernel_rfl); conv at g10 => rhs; whnf)
            first | have g11 : act.tmps[11]?.getD undef = undef := hI.kept 11 (by kernel_rfl) | (have g11 := hI.kept 11 (by kernel_rfl); conv at g11 => rhs; whnf)
            first | have g12 : act.tmps[12]?.getD undef = undef := hI.kept 12 (by kernel_rfl) | (have g12 := hI.kept 12 (by kernel_rfl); conv at g12 => rhs; whnf)
            first | have g13 : act.tmps[13]?.getD undef = undef := hI.kept 13 (by kernel_rfl) | (have g13 := hI.kept 13 (by kernel_rfl); conv at g13 => rhs; whnf)
            first | have g14 : act.tmps[14]?.getD undef = undef := hI.kept 14 (by kernel_rfl) | (have g14 := hI.kept 14 (by kernel_rfl); conv at g14 => rhs; whnf)
            first | have g15 : act.tmps[15]?.getD undef = undef := hI.kept 15 (by kernel_rfl) | (have g15 := hI.kept 15 (by kernel_rfl); conv at g15 => rhs; whnf)
            first | have g16 : act.tmps[16]?.getD undef = undef := hI.kept 16 (by kernel_rfl) | (have g16 := hI.kept 16 (by kernel_rfl); conv at g16 => rhs; whnf)
            first | have g17 : act.tmps[17]?.getD undef = undef := hI.kept 17 (by kernel_rfl) | (have g17 := hI.kept 17 (by kernel_rfl); conv at g17 => rhs; whnf)
            first | have g18 : act.tmps[18]?.getD undef = undef := hI.kept 18 (by kernel_rfl) | (have g18 := hI.kept 18 (by kernel_rfl); conv at g18 => rhs; whnf)
            first | have g19 : act.tmps[19]?.getD undef = undef := hI.kept 19 (by kernel_rfl) | (have g19 := hI.kept 19 (by kernel_rfl); conv at g19 => rhs; whnf)
            first | have g20 : act.tmps[20]?.getD undef = undef := hI.kept 20 (by kernel_rfl) | (have g20 := hI.kept 20 (by kernel_rfl); conv at g20 => rhs; whnf)
            first | have g21 : act.tmps[21]?.getD undef = undef := hI.kept 21 (by kernel_rfl) | (have g21 := hI.kept 21 (by kernel_rfl); conv at g21 => rhs; whnf)
            first | have g22 : act.tmps[22]?.getD undef = undef := hI.kept 22 (by kernel_rfl) | (have g22 := hI.kept 22 (by kernel_rfl); conv at g22 => rhs; whnf)
            first | have g41 : act.tmps[41]?.getD undef = undef := hI.kept 41 (by kernel_rfl) | (have g41 := hI.kept 41 (by kernel_rfl); conv at g41 => rhs; whnf)
            first | have g42 : act.tmps[42]?.getD undef = undef := hI.kept 42 (by kernel_rfl) | (have g42 := hI.kept 42 (by kernel_rfl); conv at g42 => rhs; whnf)
            first | have g43 : act.tmps[43]?.getD undef = undef := hI.kept 43 (by kernel_rfl) | (have g43 := hI.kept 43 (by kernel_rfl); conv at g43 => rhs; whnf)
            first | have g44 : act.tmps[44]?.getD undef = undef := hI.kept 44 (by kernel_rfl) | (have g44 := hI.kept 44 (by kernel_rfl); conv at g44 => rhs; whnf)
            first | have g45 : act.tmps[45]?.getD undef = undef := hI.kept 45 (by kernel_rfl) | (have g45 := hI.kept 45 (by kernel_rfl); conv at g45 => rhs; whnf)
            first | have g46 : act.tmps[46]?.getD undef = undef := hI.kept 46 (by kernel_rfl) | (have g46 := hI.kept 46 (by kernel_rfl); conv at g46 => rhs; whnf)
            first | have g47 : act.tmps[47]?.getD undef = undef := hI.kept 47 (by kernel_rfl) | (have g47 := hI.kept 47 (by kernel_rfl); conv at g47 => rhs; whnf)
            first | have g48 : act.tmps[48]?.getD undef = undef := hI.kept 48 (by kernel_rfl) | (have g48 := hI.kept 48 (by kernel_rfl); conv at g48 => rhs; whnf)
            first | have g49 : act.tmps[49]?.getD undef = undef := hI.kept 49 (by kernel_rfl) | (have g49 := hI.kept 49 (by kernel_rfl); conv at g49 => rhs; whnf)
            first | have g50 : act.tmps[50]?.getD undef = undef := hI.kept 50 (by kernel_rfl) | (have g50 := hI.kept 50 (by kernel_rfl); conv at g50 => rhs; whnf)
            first | have g51 : act.tmps[51]?.getD undef = undef := hI.kept 51 (by kernel_rfl) | (have g51 := hI.kept 51 (by kernel_rfl); conv at g51 => rhs; whnf)
            first | have g52 : act.tmps[52]?.getD undef = undef := hI.kept 52 (by kernel_rfl) | (have g52 := hI.kept 52 (by kernel_rfl); conv at g52 => rhs; whnf)
            first | have g53 : act.tmps[53]?.getD undef = undef := hI.kept 53 (by kernel_rfl) | (have g53 := hI.kept 53 (by kernel_rfl); conv at g53 => rhs; whnf)
            first | have g54 : act.tmps[54]?.getD undef = undef := hI.kept 54 (by kernel_rfl) | (have g54 := hI.kept 54 (by kernel_rfl); conv at g54 => rhs; whnf)
            first | have g55 : act.tmps[55]?.getD undef = undef := hI.kept 55 (by kernel_rfl) | (have g55 := hI.kept 55 (by kernel_rfl); conv at g55 => rhs; whnf)
            first | have g56 : act.tmps[56]?.getD undef = undef := hI.kept 56 (by kernel_rfl) | (have g56 := hI.kept 56 (by kernel_rfl); conv at g56 => rhs; whnf)
            first | have g57 : act.tmps[57]?.getD undef = undef := hI.kept 57 (by kernel_rfl) | (have g57 := hI.kept 57 (by kernel_rfl); conv at g57 => rhs; whnf)
            first | have g58 : act.tmps[58]?.getD undef = undef := hI.kept 58 (by kernel_rfl) | (have g58 := hI.kept 58 (by kernel_rfl); conv at g58 => rhs; whnf)
            first | have g59 : act.tmps[59]?.getD undef = undef := hI.kept 59 (by kernel_rfl) | (have g59 := hI.kept 59 (by kernel_rfl); conv at g59 => rhs; whnf)
            first | have g60 : act.tmps[60]?.getD undef = undef := hI.kept 60 (by kernel_rfl) | (have g60 := hI.kept 60 (by kernel_rfl); conv at g60 => rhs; whnf)
            first | have g61 : act.tmps[61]?.getD undef = undef := hI.kept 61 (by kernel_rfl) | (have g61 := hI.kept 61 (by kernel_rfl); conv at g61 => rhs; whnf)
            first | have g62 : act.tmps[62]?.getD undef = undef := hI.kept 62 (by kernel_rfl) | (have g62 := hI.kept 62 (by kernel_rfl); conv at g62 => rhs; whnf)
            first | have g63 : act.tmps[63]?.getD undef = undef := hI.kept 63 (by kernel_rfl) | (have g63 := hI.kept 63 (by kernel_rfl); conv at g63 => rhs; whnf)
            first | have g64 : act.tmps[64]?.getD undef = undef := hI.kept 64 (by kernel_rfl) | (have g64 := hI.kept 64 (by kernel_rfl); conv at g64 => rhs; whnf)
            first | have g65 : act.tmps[65]?.getD undef = undef := hI.kept 65 (by kernel_rfl) | (have g65 := hI.kept 65 (by kernel_rfl); conv at g65 => rhs; whnf)
            first | have g66 : act.tmps[66]?.getD undef = undef := hI.kept 66 (by kernel_rfl) | (have g66 := hI.kept 66 (by kernel_rfl); conv at g66 => rhs; whnf)
            first | have g67 : act.tmps[67]?.getD undef = undef := hI.kept 67 (by kernel_rfl) | (have g67 := hI.kept 67 (by kernel_rfl); conv at g67 => rhs; whnf)
            first | have g68 : act.tmps[68]?.getD undef = undef := hI.kept 68 (by kernel_rfl) | (have g68 := hI.kept 68 (by kernel_rfl); conv at g68 => rhs; whnf)
            first | have g69 : act.tmps[69]?.getD undef = undef := hI.kept 69 (by kernel_rfl) | (have g69 := hI.kept 69 (by kernel_rfl); conv at g69 => rhs; whnf)
            first | have g70 : act.tmps[70]?.getD undef = undef := hI.kept 70 (by kernel_rfl) | (have g70 := hI.kept 70 (by kernel_rfl); conv at g70 => rhs; whnf)
            first | have g71 : act.tmps[71]?.getD undef = undef := hI.kept 71 (by kernel_rfl) | (have g71 := hI.kept 71 (by kernel_rfl); conv at g71 => rhs; whnf)
            first | have g72 : act.tmps[72]?.getD undef = undef := hI.kept 72 (by kernel_rfl) | (have g72 := hI.kept 72 (by kernel_rfl); conv at g72 => rhs; whnf)
            first | have g73 : act.tmps[73]?.getD undef = undef := hI.kept 73 (by kernel_rfl) | (have g73 := hI.kept 73 (by kernel_rfl); conv at g73 => rhs; whnf)
            first | have g74 : act.tmps[74]?.getD undef = undef := hI.kept 74 (by kernel_rfl) | (have g74 := hI.kept 74 (by kernel_rfl); conv at g74 => rhs; whnf)
            first | have g75 : act.tmps[75]?.getD undef = undef := hI.kept 75 (by kernel_rfl) | (have g75 := hI.kept 75 (by kernel_rfl); conv at g75 => rhs; whnf)
            first | have g76 : act.tmps[76]?.getD undef = undef := hI.kept 76 (by kernel_rfl) | (have g76 := hI.kept 76 (by kernel_rfl); conv at g76 => rhs; whnf)
            first | have g77 : act.tmps[77]?.getD undef = undef := hI.kept 77 (by kernel_rfl) | (have g77 := hI.kept 77 (by kernel_rfl); conv at g77 => rhs; whnf)
            first | have g78 : act.tmps[78]?.getD undef = undef := hI.kept 78 (by kernel_rfl) | (have g78 := hI.kept 78 (by kernel_rfl); conv at g78 => rhs; whnf)
            first | have g79 : act.tmps[79]?.getD undef = undef := hI.kept 79 (by kernel_rfl) | (have g79 := hI.kept 79 (by kernel_rfl); conv at g79 => rhs; whnf)
            first | have g80 : act.tmps[80]?.getD undef = undef := hI.kept 80 (by kernel_rfl) | (have g80 := hI.kept 80 (by kernel_rfl); conv at g80 => rhs; whnf)
            first | have g81 : act.tmps[81]?.getD undef = undef := hI.kept 81 (by kernel_rfl) | (have g81 := hI.kept 81 (by kernel_rfl); conv at g81 => rhs; whnf)
            first | have g82 : act.tmps[82]?.getD undef = undef := hI.kept 82 (by kernel_rfl) | (have g82 := hI.kept 82 (by kernel_rfl); conv at g82 => rhs; whnf)
            first | have g83 : act.tmps[83]?.getD undef = undef := hI.kept 83 (by kernel_rfl) | (have g83 := hI.kept 83 (by kernel_rfl); conv at g83 => rhs; whnf)
            first | have g84 : act.tmps[84]?.getD undef = undef := hI.kept 84 (by kernel_rfl) | (have g84 := hI.kept 84 (by kernel_rfl); conv at g84 => rhs; whnf)
            first | have g85 : act.tmps[85]?.getD undef = undef := hI.kept 85 (by kernel_rfl) | (have g85 := hI.kept 85 (by kernel_rfl); conv at g85 => rhs; whnf)
            first | have g86 : act.tmps[86]?.getD undef = undef := hI.kept 86 (by kernel_rfl) | (have g86 := hI.kept 86 (by kernel_rfl); conv at g86 => rhs; whnf)
            first | have g87 : act.tmps[87]?.getD undef = undef := hI.kept 87 (by kernel_rfl) | (have g87 := hI.kept 87 (by kernel_rfl); conv at g87 => rhs; whnf)
            first | have g88 : act.tmps[88]?.getD undef = undef := hI.kept 88 (by kernel_rfl) | (have g88 := hI.kept 88 (by kernel_rfl); conv at g88 => rhs; whnf)
            first | have g89 : act.tmps[89]?.getD undef = undef := hI.kept 89 (by kernel_rfl) | (have g89 := hI.kept 89 (by kernel_rfl); conv at g89 => rhs; whnf)
            have g23 := hI.has 0 23 rfl (hall 0 (by decide))
            have g24 := hI.has 1 24 rfl (hall 1 (by decide))
            have g25 := hI.has 2 25 rfl (hall 2 (by decide))
            have g26 := hI.has 3 26 rfl (hall 3 (by decide))
            have g27 := hI.has 4 27 rfl (hall 4 (by decide))
            have g28 := hI.has 5 28 rfl (hall 5 (by decide))
            have g29 := hI.has 6 29 rfl (hall 6 (by decide))
            have g30 := hI.has 7 30 rfl (hall 7 (by decide))
            have g31 := hI.has 8 31 rfl (hall 8 (by decide))
            have g32 := hI.has 9 32 rfl (hall 9 (by decide))
            have g33 := hI.has 10 33 rfl (hall 10 (by decide))
            have g34 := hI.has 11 34 rfl (hall 11 (by decide))
            have g35 := hI.has 12 35 rfl (hall 12 (by decide))
            have g36 := hI.has 13 36 rfl (hall 13 (by decide))
            have g37 := hI.has 14 37 rfl (hall 14 (by decide))
            have g38 := hI.has 15 38 rfl (hall 15 (by decide))
            have g39 := hI.has 16 39 rfl (hall 16 (by decide))
            have hsz : act.tmps.size = 90 := hI.size.trans (by kernel_rfl)
            have hd := hI.defers
            clear hI hall hdd
            obtain ⟨tt, dd⟩ := act
            simp only at g0 g1 g2 g3 g4 g5 g6 g7 g8 g9 g10 g11 g12 g13 g14 g15 g16 g17 g18 g19 g20 g21 g22 g23 g24 g25 g26 g27 g28 g29 g30 g31 g32 g33 g34 g35 g36 g37 g38 g39 g40 g41 g42 g43 g44 g45 g46 g47 g48 g49 g50 g51 g52 g53 g54 g55 g56 g57 g58 g59 g60 g61 g62 g63 g64 g65 g66 g67 g68 g69 g70 g71 g72 g73 g74 g75 g76 g77 g78 g79 g80 g81 g82 g83 g84 g85 g86 g87 g88 g89 hsz hd
            subst hd
            have hl : tt = #[tt[0]?.getD undef, tt[1]?.getD undef, tt[2]?.getD undef, tt[3]?.getD undef, tt[4]?.getD undef, tt[5]?.getD undef, tt[6]?.getD undef, tt[7]?.getD undef, tt[8]?.getD undef, tt[9]?.getD undef, tt[10]?.getD undef, tt[11]?.getD undef, tt[12]?.getD undef, tt[13]?.getD undef, tt[14]?.getD undef, tt[15]?.getD undef, tt[16]?.getD undef, tt[17]?.getD undef, tt[18]?.getD undef, tt[19]?.getD undef, tt[20]?.getD undef, tt[21]?.getD undef, tt[22]?.getD undef, tt[23]?.getD undef, tt[24]?.getD undef, tt[25]?.getD undef, tt[26]?.getD undef, tt[27]?.getD undef, tt[28]?.getD undef, tt[29]?.getD undef, tt[30]?.getD undef, tt[31]?.getD undef, tt[32]?.getD undef, tt[33]?.getD undef, tt[34]?.getD undef, tt[35]?.getD undef, tt[36]?.getD undef, tt[37]?.getD undef, tt[38]?.getD undef, tt[39]?.getD undef, tt[40]?.getD undef, tt[41]?.getD undef, tt[42]?.getD undef, tt[43]?.getD undef, tt[44]?.getD undef, tt[45]?.getD undef, tt[46]?.getD undef, tt[47]?.getD undef, tt[48]?.getD undef, tt[49]?.getD undef, tt[50]?.getD undef, tt[51]?.getD undef, tt[52]?.getD undef, tt[53]?.getD undef, tt[54]?.getD undef, tt[55]?.getD undef, tt[56]?.getD undef, tt[57]?.getD undef, tt[58]?.getD undef, tt[59]?.getD undef, tt[60]?.getD undef, tt[61]?.getD undef, tt[62]?.getD undef, tt[63]?.getD undef, tt[64]?.getD undef, tt[65]?.getD undef, tt[66]?.getD undef, tt[67]?.getD undef, tt[68]?.getD undef, tt[69]?.getD undef, tt[70]?.getD undef, tt[71]?.getD undef, tt[72]?.getD undef, tt[73]?.getD undef, tt[74]?.getD undef, tt[75]?.getD undef, tt[76]?.getD undef, tt[77]?.getD undef, tt[78]?.getD undef, tt[79]?.getD undef, tt[80]?.getD undef, tt[81]?.getD undef, tt[82]?.getD undef, tt[83]?.getD undef, tt[84]?.getD undef, tt[85]?.getD undef, tt[86]?.getD undef, tt[87]?.getD undef, tt[88]?.getD undef, tt[89]?.getD undef] := (arr_lit hsz).trans rfl
            rw [g0, g1, g2, g3, g4, g5, g6, g7, g8, g9, g10, g11, g12, g13, g14, g15, g16, g17, g18, g19, g20, g21, g22, g23, g24, g25, g26, g27, g28, g29, g30, g31, g32, g33, g34, g35, g36, g37, g38, g39, g40, g41, g42, g43, g44, g45, g46, g47, g48, g49, g50, g51, g52, g53, g54, g55, g56, g57, g58, g59, g60, g61, g62, g63, g64, g65, g66, g67, g68, g69, g70, g71, g72, g73, g74, g75, g76, g77, g78, g79, g80, g81, g82, g83, g84, g85, g86, g87, g88, g89] at hl
            clear g0 g1 g2 g3 g4 g5 g6 g7 g8 g9 g10 g11 g12 g13 g14 g15 g16 g17 g18 g19 g20 g21 g22 g23 g24 g25 g26 g27 g28 g29 g30 g31 g32 g33 g34 g35 g36 g37 g38 g39 g40 g41 g42 g43 g44 g45 g46 g47 g48 g49 g50 g51 g52 g53 g54 g55 g56 g57 g58 g59 g60 g61 g62 g63 g64 g65 g66 g67 g68 g69 g70 g71 g72 g73 g74 g75 g76 g77 g78 g79 g80 g81 g82 g83 g84 g85 g86 g87 g88 g89 hsz
            subst hl
            go_wp2
            refine bodyPost_ret (results_tmp3 rfl _ _ _) rfl ?_
            first | exact (HNo _).out HN.out (below_draws (Below.refl _ _) _) | (obtain ⟨z1, z2, z3, z4, z5, z6, q1, q2, q3⟩ := (HNo _).out HN.out (below_draws (Below.refl _ _) _); exact ⟨z1, z2, z3, z4, ⟨z5, q1⟩, ⟨z6, q2⟩, q3⟩)
    · have hkk : k = ls.length := by omega
      subst hkk
      have HC : Hid (wlC ls = true) := Lib.hid (wlC_yes HL.out HA.out)
      have HNE := Lib.hid (wlN_yes HC.out)
      obtain ⟨r1, r2⟩ := wlC_row0 HC.out
      have HROW : Hid (∀ i, i < ls.length → (rowL ls i).length = (rowL ls 0).length) := Lib.hid (fun i hi => wlC_row HC.out hi)
      obtain ⟨w1, hw1⟩ : ∃ z, z = w.drewN nn := ⟨_, rfl⟩
      have B1 : Hid (Below w.heap.size w w1) := Lib.hid (by rw [hw1]; exact below_draws (Below.refl _ _) _)
      obtain ⟨b, off, A0, c0, rfl, hb, hc, hfl⟩ := (HF.out.below B1.out).at_ (show 0 < ls.length by have := HL.out; omega)
      obtain ⟨b0, o0, rfl, hb0, -⟩ := hfl.at_ (k := 0) (by exact r1)
      have hc0 : w1.cell? ⟨b, off, none⟩ = some (.slice (some ⟨b0, o0, none⟩) (rowL ls 0).length c0) := hc
      have HFL0 : Hid (Fl w1 (some ⟨b0, o0, none⟩) (rowL ls 0)) := Lib.hid hfl
      have HB0 := Lib.hid hb0
      have hpos : 0 < ls.length := by have := HL.out; omega
      rw [← hw1]
      clear hw1 hc hfl HA hlt hb0
      obtain ⟨n0, hn0⟩ : ∃ z, z = (rowL ls 0).length := ⟨_, rfl⟩
      have HN0 := Lib.hid hn0
      rw [← hn0] at hc0 r1 r2 HNE HROW
      clear hn0
      obtain ⟨i0, hi0, hz0, hz1, hz2⟩ := info_parts f32_info
      have hown : (w1.alloc (.cells #[] 22)).ownsRow w.heap.size 22 1 (.slice (some ⟨w1.heap.size, 0, none⟩) 0 0) 0 [] := World.ownsRow_made w1 #[] 0 B1.out.size (by decide) rfl
      go_wp2_with (first
        | (at_builtin; refine wpList_append_own _ rfl _ _ 32 rfl w.heap.size 22 i0 (.float .f32 0) 1 4 Try.underlying32 hi0 hz0 hz1 hz2 rfl (by decide) _ _ _ rfl hown ⟨b0, o0, none⟩ n0 c0 ((rowL ls 0).map (Value.float .f32)) rfl ?hl ?c1 ?c2 ?c3 ?c4 ?c5 ?_)
        | fail)
      case hl => rw [List.length_map, Nat.mul_one]; exact HN0.out.symm
      case c1 =>
        intro j u hj
        have hj2 : j < (rowL ls 0).length := by
          by_cases e : j < (rowL ls 0).length
          · exact e
          · rw [List.getElem?_eq_none (by simp; omega)] at hj; cases hj
        have hb2 : Below w1.heap.size w1 (w1.alloc (.cells #[] 22)) := (Below.refl _ _).alloc (Nat.le_refl _) _
        obtain ⟨b2, o2, hE, -, hcj⟩ := HFL0.out.at_ hj2
        obtain ⟨rfl, rfl⟩ : b0 = b2 ∧ o0 = o2 := by simpa using hE
        have ea : (⟨b0, o0, none⟩ : Addr).add j = ⟨b0, o0 + j, none⟩ := by
          unfold Addr.add
          split
          · rename_i e; subst e; rfl
          · rfl
        rw [ea, hb2.cell (p := ⟨b0, o0 + j, none⟩) HB0.out, hcj]
        rw [List.getElem?_map, List.getElem?_eq_getElem hj2] at hj
        simp at hj
        rw [← hj]
        simp [List.getD, hj2]
      case c2 =>
        intro u hu
        simp only [List.mem_map] at hu
        obtain ⟨x, -, rfl⟩ := hu
        rfl
      case c3 => unfold maxLen; omega
      case c4 => omega
      case c5 => have := B1.out.size; simp; omega
      · intro v' w4 hown' hgrow _
        have HGR : Hid (Gr w4 w.heap.size v' (rowL ls 0)) := Lib.hid (by unfold Gr; rw [← HN0.out]; simpa using hown')
        have B4 : Hid (Below w.heap.size w w4) := Lib.hid ((B1.out.alloc B1.out.size _).grown hgrow (by have := B1.out.size; simp; omega) (fun k hk => by simp [Value.ownBlock] at hk; have := B1.out.size; omega))
        clear hown hown' hgrow hc0
        obtain ⟨A1, cap1, g, rfl, ho⟩ := HGR.out.own
        rcases ho with ho | ⟨rfl, hBg, ho⟩
        · exfalso
          rw [ho] at HN0
          have := HN0.out
          simp at this
          omega
        have HOWN : Hid (Own w4 g (outL ls n0 0 0)) := Lib.hid (by rw [outL_start HN0.out.symm]; exact ho)
        have HBG := Lib.hid hBg
        have HGLT : Hid (g < w4.heap.size) := Lib.hid ho.1
        clear ho hBg HGR
        have e0 : (rowL ls 0).length = n0 := HN0.out.symm
        rw [e0]
        have hmk := make_i64 n0 w4 (by omega)
        obtain ⟨w5, hw5⟩ : ∃ z, z = w4.alloc (.cells (madeCells #[.int .i64 0] n0) 2) := ⟨_, rfl⟩
        have B45 : Hid (Below w4.heap.size w4 w5) := Lib.hid (by rw [hw5]; exact (Below.refl _ _).alloc (Nat.le_refl _) _)
        have HOWI : Hid (OwnI w5 w4.heap.size (whoL ls n0 0 0)) := Lib.hid (by
          have hs := FlNewI.start w4 n0 2 []
          rw [← hw5] at hs
          refine ⟨hs.2.2.1, fun j hj => ?_⟩
          rw [whoL_len] at hj
          obtain ⟨c1, c2⟩ := hs.2.2.2 j hj
          rw [if_neg (Nat.not_lt_zero _)] at c1
          refine ⟨?_, c2⟩
          rw [c1, whoL_at hj]
          simp [idxW, wlI])
        have HO5 : Hid (Own w5 g (outL ls n0 0 0)) := Lib.hid (HOWN.out.below B45.out)
        have B5 : Hid (Below w.heap.size w w5) := Lib.hid (below_of B4.out B4.out.size B45.out)
        have HGW : Hid (w.heap.size ≤ w4.heap.size) := Lib.hid B4.out.size
        have HNEG : Hid (g ≠ w4.heap.size) := Lib.hid (by have := HGLT.out; omega)
        rw [← hw5] at hmk
        clear hw5 HOWN
        go_wp2
        clear hmk e0
        go_loopw [52] (fun i wr => ∃ i0 : Nat, i0 ≤ ls.length ∧ i = .int .i64 i0 ∧ Hid (Own wr g (outL ls n0 i0 0)) ∧ Hid (OwnI wr w4.heap.size (whoL ls n0 i0 0)) ∧ Hid (Below w.heap.size w wr)) (fun i _ => ls.length - (intOf i).toNat)
        case atStart => exact ⟨0, Nat.zero_le _, rfl, HO5, HOWI, B5⟩
        case round =>
          clear HO5 HOWI B5
          obtain ⟨i, hi9, rfl, HO, HI, HBW⟩ := hrel
          by_cases hlt : i < ls.length
          · have HLT := Lib.hid hlt
            go_wp2
            go_loopw [57] (fun k wr => ∃ k0 : Nat, k0 ≤ n0 ∧ k = .int .i64 k0 ∧ Hid (Own wr g (outL ls n0 i k0)) ∧ Hid (OwnI wr w4.heap.size (whoL ls n0 i k0)) ∧ Hid (Below w.heap.size w wr)) (fun k _ => n0 - (intOf k).toNat)
            case atStart => exact ⟨0, Nat.zero_le _, rfl, HO, HI, HBW⟩
            case round =>
              clear HO HI HBW
              obtain ⟨k, hk, rfl, HO, HI, HBW⟩ := hrel
              by_cases hlk : k < n0
              · have HLK := Lib.hid hlk
                obtain ⟨b1, off1, Ai, ci, hE, -, hci, hfli⟩ := (HF.out.below HBW.out).at_ HLT.out
                obtain ⟨rfl, rfl⟩ : b = b1 ∧ off = off1 := by simpa using hE
                clear hE
                obtain ⟨bi, oi, rfl, -, hcx⟩ := hfli.at_ (k := k) (by have := HROW.out i HLT.out; unfold rowL at this; omega)
                have hcr : wr.cell? ⟨b, off + i, none⟩ = some (.slice (some ⟨bi, oi, none⟩) (rowL ls i).length ci) := hci
                have hcx1 : wr.cell? ⟨bi, oi + k, none⟩ = some (.float .f32 ((rowL ls i).getD k 0)) := hcx
                rw [HROW.out i HLT.out] at hcr
                clear hci hfli hcx
                obtain ⟨co, fo⟩ := HO.out.2 k (by rw [outL_len]; exact hlk)
                obtain ⟨cw, fw⟩ := HI.out.2 k (by rw [whoL_len]; exact hlk)
                rw [outL_at hlk, idxW_here] at co
                have co0 : wr.cell? ⟨g, 0 + k, none⟩ = some (.float .f32 ((rowL ls (wlI ls k i)).getD k 0)) := by rw [Nat.zero_add]; exact co
                have HK1 : Hid (gtr32 ((rowL ls i).getD k 0) ((rowL ls (wlI ls k i)).getD k 0) = false → outL ls n0 i (k + 1) = outL ls n0 i k ∧ whoL ls n0 i (k + 1) = whoL ls n0 i k) := Lib.hid wl_keep
                have HK2 : Hid (gtr32 ((rowL ls i).getD k 0) ((rowL ls (wlI ls k i)).getD k 0) = true → outL ls n0 i (k + 1) = (outL ls n0 i k).set k ((rowL ls i).getD k 0) ∧ whoL ls n0 i (k + 1) = (whoL ls n0 i k).set k (i : Int)) := Lib.hid wl_take
                have hil := HLT.out
                generalize (rowL ls i).getD k 0 = x at *
                generalize (rowL ls (wlI ls k i)).getD k 0 = y at *
                obtain ⟨p, hp⟩ : ∃ p, gtr32 x y = p := ⟨_, rfl⟩
                rw [hp] at HK1 HK2
                unfold gtr32 at hp
                go_wp2_with fail
                go_quiet (fail)
                rename_i nq
                obtain ⟨w6, hw6⟩ : ∃ z, z = wr.drewN nq := ⟨_, rfl⟩
                have HO6 : Hid (Own w6 g (outL ls n0 i k)) := Lib.hid (by rw [hw6]; exact HO.out)
                have HI6 : Hid (OwnI w6 w4.heap.size (whoL ls n0 i k)) := Lib.hid (by rw [hw6]; exact HI.out)
                have HB6 : Hid (Below w.heap.size w w6) := Lib.hid (by rw [hw6]; exact below_draws HBW.out _)
                have d1 : w6.cell? ⟨b, off + i, none⟩ = some (.slice (some ⟨bi, oi, none⟩) n0 ci) := by rw [hw6]; exact hcr
                have d2 : w6.cell? ⟨bi, oi + k, none⟩ = some (.float .f32 x) := by rw [hw6]; exact hcx1
                have d3 : w6.cell? ⟨g, k, none⟩ = some (.float .f32 y) := by rw [hw6]; exact co
                have d4 : w6.frozen? ⟨g, k, none⟩ = false := by rw [hw6]; exact fo
                rw [← hw6]
                clear hw6 hcr hcx1 co co0 fo cw fw HO HI HBW
                cases p
                · obtain ⟨e1, e2⟩ := HK1.out rfl
                  rw [← e1] at HO6
                  rw [← e2] at HI6
                  clear e1 e2 HK1 HK2
                  go_wp2
                  go_roundw
                  case rel => exact ⟨k + 1, by have := HLK.out; omega, by go_num, HO6, HI6, HB6⟩
                  case measure => have := HLK.out; simp [intOf]; omega
                · obtain ⟨e1, e2⟩ := HK2.out rfl
                  obtain ⟨cw, fw⟩ := HI6.out.2 k (by rw [whoL_len]; exact HLK.out)
                  have hne := HNEG.out
                  have d5 : (w6.setCell ⟨g, k, none⟩ (.float .f32 x)).cell? ⟨w4.heap.size, k, none⟩ = some (.int .i64 ((whoL ls n0 i k).getD k 0)) := by
                    rw [World.cell?_setCell_other (h := by intro hh; simp only [Addr.mk.injEq] at hh; exact hne hh.1)]; exact cw
                  have d6 : (w6.setCell ⟨g, k, none⟩ (.float .f32 x)).frozen? ⟨w4.heap.size, k, none⟩ = false := by rw [World.frozen?_setCell]; exact fw
                  have HO8 : Hid (Own ((w6.setCell ⟨g, k, none⟩ (.float .f32 x)).setCell ⟨w4.heap.size, k, none⟩ (.int .i64 (i : Int))) g (outL ls n0 i (k + 1))) := Lib.hid (by
                    rw [e1]
                    exact (HO6.out.putW (by rw [outL_len]; exact HLK.out)).setCell (by show w4.heap.size ≠ g; exact fun hh => hne hh.symm) _)
                  have HI8 : Hid (OwnI ((w6.setCell ⟨g, k, none⟩ (.float .f32 x)).setCell ⟨w4.heap.size, k, none⟩ (.int .i64 (i : Int))) w4.heap.size (whoL ls n0 i (k + 1))) := Lib.hid (by
                    rw [e2]
                    exact (HI6.out.setCell (by show g ≠ w4.heap.size; exact hne) _).putW (by rw [whoL_len]; exact HLK.out) _)
                  have HB8 : Hid (Below w.heap.size w ((w6.setCell ⟨g, k, none⟩ (.float .f32 x)).setCell ⟨w4.heap.size, k, none⟩ (.int .i64 (i : Int)))) := Lib.hid ((HB6.out.setCell HBG.out _).setCell HGW.out _)
                  clear e1 e2 HK1 HK2 HO6 HI6 HB6 cw fw
                  generalize (whoL ls n0 i k).getD k 0 = z0 at d5
                  go_wp2
                  go_roundw
                  case rel => exact ⟨k + 1, by have := HLK.out; omega, by go_num, HO8, HI8, HB8⟩
                  case measure => have := HLK.out; simp [intOf]; omega
              · have hkk : k = n0 := by omega
                have HO2 : Hid (Own wr g (outL ls n0 (i + 1) 0)) := Lib.hid (by rw [← outL_all, ← hkk]; rw [hkk]; have := HO.out; rw [hkk] at this; exact this)
                have HI2 : Hid (OwnI wr w4.heap.size (whoL ls n0 (i + 1) 0)) := Lib.hid (by rw [← whoL_all]; have := HI.out; rw [hkk] at this; exact this)
                clear HO HI
                go_wp2
                go_roundw
                case rel => exact ⟨i + 1, by have := HLT.out; omega, by go_num, HO2, HI2, HBW⟩
                case measure => have := HLT.out; simp [intOf]; omega
          · have hkk : i = ls.length := by omega
            subst hkk
            have HFIN : Hid (OwnW wr w.heap.size (some ⟨g, 0, none⟩) (some ⟨w4.heap.size, 0, none⟩) g w4.heap.size ls) := Lib.hid ⟨.inr ⟨rfl, HBG.out, by rw [← outL_end HNE.out]; exact HO.out⟩, .inr ⟨rfl, HGW.out, by rw [← whoL_end HNE.out]; exact HI.out⟩, fun _ => HNEG.out⟩
            go_wp2
            refine bodyPost_ret (results_tmp3 rfl _ _ _) rfl ?_
            first | exact ⟨_, _, _, _, _, _, by rw [wlA_len, wlW_len, HNE.out, HC.out]; rfl, HFIN.out, HBW.out⟩ | exact ⟨_, _, _, _, ⟨_, by rw [wlA_len, wlW_len, HNE.out, HC.out]; rfl⟩, ⟨_, HFIN.out⟩, HBW.out⟩
end Go.Proofs.Ytpmjikchlofebaa
