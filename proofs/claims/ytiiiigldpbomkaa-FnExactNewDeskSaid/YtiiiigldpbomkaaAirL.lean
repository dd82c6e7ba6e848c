/- Air: what is the same, and its speeds, densities and powers: both sides. No statement is proved here. -/
import Derived.Test.YtiiiigldpbomkaaAir
import Derived.Test.YtiiiigldpbomkaaInv3
namespace Go.Proofs.Ytiiiigldpbomkaa
open Go Go.RowKit
def samN1 (x y : Nat) : Bool := decide (canon .f32 x = canon .f32 y)
def airS (d h s k d' h' s' k' : Nat) : Bool := samN1 d d' && (samN1 h h' && (samN1 s s' && samN1 k k'))
def spdQ (h s k z : Nat) : Nat := if amount z then onlyN (spdV h s k z) else 0
def spdO (d h s k z : Nat) : Bool := airV d h s k && (amount z && fin .f32 (spdV h s k z))
def spdR (d h s k z : Nat) : Nat := if airV d h s k && amount z then onlyN (spdV h s k z) else 0
def denO (d h s k z : Nat) : Bool := airV d h s k && (amount z && fin .f32 (denV d z))
def denR (d h s k z : Nat) : Nat := if airV d h s k && amount z then onlyN (denV d z) else 0
def powO (d s : Nat) : Bool := amount d && (amount s && fin .f32 (powV d s))
def powR (d s : Nat) : Nat := if amount d && amount s then onlyN (powV d s) else 0
set_option maxHeartbeats 8000000 in
set_option maxRecDepth 100000 in
theorem s_l04Same (d h s k d' h' s' k' B B' : Nat) (w : World) (hk : BlkL w B [.float .f32 d, .float .f32 h, .float .f32 s, .float .f32 k]) (hk' : BlkL w B' [.float .f32 d', .float .f32 h', .float .f32 s', .float .f32 k'])
    (hw : ∀ x ∈ [d, h, s, k, d', h', s', k'], canon .f32 x < 4294967296) :
    Calls Try.prog 137 #[.pointer (some ⟨B, 0, none⟩), .pointer (some ⟨B', 0, none⟩)] w fun e w' => ∃ n, e = .returned (.bool (airS d h s k d' h' s' k')) ∧ w' = w.drewN n := by
  obtain ⟨k0, k1, k2, k3⟩ := hk.four
  obtain ⟨l0, l1, l2, l3⟩ := hk'.four
  have A0 := Lib.hid (hw d (by simp))
  have A1 := Lib.hid (hw h (by simp))
  have A2 := Lib.hid (hw s (by simp))
  have A3 := Lib.hid (hw k (by simp))
  have B0 := Lib.hid (hw d' (by simp))
  have B1 := Lib.hid (hw h' (by simp))
  have B2 := Lib.hid (hw s' (by simp))
  have B3 := Lib.hid (hw k' (by simp))
  clear hk hk' hw
  cases p0 : decide (canon .f32 d = canon .f32 d')
  · have P0 := Lib.hid p0; clear p0
    go_enter Try.func137, Try.ntmps137
    go_wp2_with fail
    refine wp_region_inv3 (fun q0 v => match q0 with
      | 0 => v = .pointer (some ⟨B, 0, none⟩)
      | 1 => v = .pointer (some ⟨B, 0, none⟩)
      | 2 => v = .pointer (some ⟨B, 0, none⟩)
      | 3 => v = .float .f32 d
      | 4 => v = .pointer (some ⟨B', 0, none⟩)
      | 5 => v = .pointer (some ⟨B', 0, none⟩)
      | 6 => v = .pointer (some ⟨B', 0, none⟩)
      | 7 => v = .float .f32 d'
      | 8 => v = .bool false
      | 9 => v = .bool false
      | 10 => v = undef
      | 11 => v = undef
      | 12 => v = undef
      | 13 => v = undef
      | 14 => v = undef
      | 15 => v = undef
      | 16 => v = undef
      | 17 => v = undef
      | 18 => v = undef
      | 19 => v = .bool false
      | 20 => v = .bool false
      | 21 => v = undef
      | 22 => v = undef
      | 23 => v = undef
      | 24 => v = undef
      | 25 => v = undef
      | 26 => v = undef
      | 27 => v = undef
      | 28 => v = undef
      | 29 => v = undef
      | 30 => v = .bool false
      | 31 => v = .bool false
      | 32 => v = undef
      | 33 => v = undef
      | 34 => v = undef
      | 35 => v = undef
      | 36 => v = undef
      | 37 => v = undef
      | 38 => v = undef
      | 39 => v = undef
      | 40 => v = undef
      | 41 => v = .bool false
      | 42 => v = .bool false
      | _ => False) (fun _ ww => ∃ nn, ww = w.drewN nn) (by kernel_rfl) (by kernel_rfl) ⟨1, rfl⟩ ?hop ?hend
    case hop =>
      intro q o hq listed act w3 hI hnot hcl hall
      obtain ⟨nn, rfl⟩ := hI.cls
      rcases q with _ | _ | _ | _ | _ | _ | _ | _ | _ | _ | _ | _ | _ | _ | _ | _ | _ | _ | _ | _ | _ | _ | _ | _ | _ | _ | _ | _ | _ | _ | _ | _ | _ | _ | _ | _ | _ | _ | _ | _ | _ | _ | _ | q
      · simp at hq; subst hq
        have g0 : act.tmps[0]?.getD undef = .pointer (some ⟨B, 0, none⟩) := hI.kept 0 (by kernel_rfl)
        clear hI hall hnot hcl
        refine .inl ⟨wanted_none rfl, ?_⟩
        unfold Oper.wp
        go_simp
        all_goals exact ⟨_, rfl, rfl, ⟨_, rfl⟩⟩
      · simp at hq; subst hq
        have g5 : act.tmps[5]?.getD undef = .pointer (some ⟨B, 0, none⟩) := hI.has 0 5 rfl (hall ⟨0, .data⟩ (by simp) rfl)
        clear hI hall hnot hcl
        refine .inl ⟨wanted_none rfl, ?_⟩
        unfold Oper.wp
        go_simp
        all_goals exact ⟨_, rfl, rfl, ⟨_, rfl⟩⟩
      · simp at hq; subst hq
        have g6 : act.tmps[6]?.getD undef = .pointer (some ⟨B, 0, none⟩) := hI.has 1 6 rfl (hall ⟨1, .data⟩ (by simp) rfl)
        clear hI hall hnot hcl
        refine .inl ⟨wanted_none rfl, ?_⟩
        unfold Oper.wp
        go_simp
        all_goals exact ⟨_, rfl, rfl, ⟨_, rfl⟩⟩
      · simp at hq; subst hq
        have g7 : act.tmps[7]?.getD undef = .pointer (some ⟨B, 0, none⟩) := hI.has 2 7 rfl (hall ⟨2, .data⟩ (by simp) rfl)
        clear hI hall hnot hcl
        refine .inl ⟨wanted_none rfl, ?_⟩
        unfold Oper.wp
        go_simp
        all_goals exact ⟨_, rfl, rfl, ⟨_, rfl⟩⟩
      · simp at hq; subst hq
        have g1 : act.tmps[1]?.getD undef = .pointer (some ⟨B', 0, none⟩) := hI.kept 1 (by kernel_rfl)
        clear hI hall hnot hcl
        refine .inl ⟨wanted_none rfl, ?_⟩
        unfold Oper.wp
        go_simp
        all_goals exact ⟨_, rfl, rfl, ⟨_, rfl⟩⟩
      · simp at hq; subst hq
        have g9 : act.tmps[9]?.getD undef = .pointer (some ⟨B', 0, none⟩) := hI.has 4 9 rfl (hall ⟨4, .data⟩ (by simp) rfl)
        clear hI hall hnot hcl
        refine .inl ⟨wanted_none rfl, ?_⟩
        unfold Oper.wp
        go_simp
        all_goals exact ⟨_, rfl, rfl, ⟨_, rfl⟩⟩
      · simp at hq; subst hq
        have g10 : act.tmps[10]?.getD undef = .pointer (some ⟨B', 0, none⟩) := hI.has 5 10 rfl (hall ⟨5, .data⟩ (by simp) rfl)
        clear hI hall hnot hcl
        refine .inl ⟨wanted_none rfl, ?_⟩
        unfold Oper.wp
        go_simp
        all_goals exact ⟨_, rfl, rfl, ⟨_, rfl⟩⟩
      · simp at hq; subst hq
        have g11 : act.tmps[11]?.getD undef = .pointer (some ⟨B', 0, none⟩) := hI.has 6 11 rfl (hall ⟨6, .data⟩ (by simp) rfl)
        clear hI hall hnot hcl
        refine .inl ⟨wanted_none rfl, ?_⟩
        unfold Oper.wp
        go_simp
        all_goals exact ⟨_, rfl, rfl, ⟨_, rfl⟩⟩
      · simp at hq; subst hq
        have g8 : act.tmps[8]?.getD undef = .float .f32 d := hI.has 3 8 rfl (hall ⟨3, .data⟩ (by simp) rfl)
        have g12 : act.tmps[12]?.getD undef = .float .f32 d' := hI.has 7 12 rfl (hall ⟨7, .data⟩ (by simp) rfl)
        clear hI hall hnot hcl
        refine .inl ⟨wanted_none rfl, ?_⟩
        unfold Oper.wp
        go_simp
        refine (s_l01Same _ _ _ A0.out B0.out).mono ?_
        rintro e w4 ⟨rfl, rfl⟩
        rw [P0.out]
        exact ⟨_, rfl, rfl, ⟨_, rfl⟩⟩
      · simp at hq; subst hq
        have g13 : act.tmps[13]?.getD undef = .bool false := hI.has 8 13 rfl (hall ⟨8, .data⟩ (by simp) rfl)
        clear hI hall hnot hcl
        refine .inl ⟨wanted_none rfl, ?_⟩
        unfold Oper.wp
        go_simp
        all_goals exact ⟨_, rfl, rfl, ⟨_, rfl⟩⟩
      · simp at hq; subst hq
        have gg : act.tmps[14]?.getD undef = .bool false := hI.has 9 14 rfl (hall ⟨9, .guard⟩ (by simp) rfl)
        clear hI hall hnot hcl
        exact .inr ⟨(wanted_of rfl rfl gg).trans rfl, rfl, ⟨_, rfl⟩⟩
      · simp at hq; subst hq
        have gg : act.tmps[14]?.getD undef = .bool false := hI.has 9 14 rfl (hall ⟨9, .guard⟩ (by simp) rfl)
        clear hI hall hnot hcl
        exact .inr ⟨(wanted_of rfl rfl gg).trans rfl, rfl, ⟨_, rfl⟩⟩
      · simp at hq; subst hq
        have gg : act.tmps[14]?.getD undef = .bool false := hI.has 9 14 rfl (hall ⟨9, .guard⟩ (by simp) rfl)
        clear hI hall hnot hcl
        exact .inr ⟨(wanted_of rfl rfl gg).trans rfl, rfl, ⟨_, rfl⟩⟩
      · simp at hq; subst hq
        have gg : act.tmps[14]?.getD undef = .bool false := hI.has 9 14 rfl (hall ⟨9, .guard⟩ (by simp) rfl)
        clear hI hall hnot hcl
        exact .inr ⟨(wanted_of rfl rfl gg).trans rfl, rfl, ⟨_, rfl⟩⟩
      · simp at hq; subst hq
        have gg : act.tmps[14]?.getD undef = .bool false := hI.has 9 14 rfl (hall ⟨9, .guard⟩ (by simp) rfl)
        clear hI hall hnot hcl
        exact .inr ⟨(wanted_of rfl rfl gg).trans rfl, rfl, ⟨_, rfl⟩⟩
      · simp at hq; subst hq
        have gg : act.tmps[14]?.getD undef = .bool false := hI.has 9 14 rfl (hall ⟨9, .guard⟩ (by simp) rfl)
        clear hI hall hnot hcl
        exact .inr ⟨(wanted_of rfl rfl gg).trans rfl, rfl, ⟨_, rfl⟩⟩
      · simp at hq; subst hq
        have gg : act.tmps[14]?.getD undef = .bool false := hI.has 9 14 rfl (hall ⟨9, .guard⟩ (by simp) rfl)
        clear hI hall hnot hcl
        exact .inr ⟨(wanted_of rfl rfl gg).trans rfl, rfl, ⟨_, rfl⟩⟩
      · simp at hq; subst hq
        have gg : act.tmps[14]?.getD undef = .bool false := hI.has 9 14 rfl (hall ⟨9, .guard⟩ (by simp) rfl)
        clear hI hall hnot hcl
        exact .inr ⟨(wanted_of rfl rfl gg).trans rfl, rfl, ⟨_, rfl⟩⟩
      · simp at hq; subst hq
        have gg : act.tmps[14]?.getD undef = .bool false := hI.has 9 14 rfl (hall ⟨9, .guard⟩ (by simp) rfl)
        clear hI hall hnot hcl
        exact .inr ⟨(wanted_of rfl rfl gg).trans rfl, rfl, ⟨_, rfl⟩⟩
      · simp at hq; subst hq
        have g14 : act.tmps[14]?.getD undef = .bool false := hI.has 9 14 rfl (hall ⟨9, .data⟩ (by simp) rfl)
        have g23 : act.tmps[23]?.getD undef = undef := hI.has 18 23 rfl (hall ⟨18, .data⟩ (by simp) rfl)
        clear hI hall hnot hcl
        refine .inl ⟨wanted_none rfl, ?_⟩
        unfold Oper.wp
        go_simp
        all_goals exact ⟨_, rfl, rfl, ⟨_, rfl⟩⟩
      · simp at hq; subst hq
        have g24 : act.tmps[24]?.getD undef = .bool false := hI.has 19 24 rfl (hall ⟨19, .data⟩ (by simp) rfl)
        clear hI hall hnot hcl
        refine .inl ⟨wanted_none rfl, ?_⟩
        unfold Oper.wp
        go_simp
        all_goals exact ⟨_, rfl, rfl, ⟨_, rfl⟩⟩
      · simp at hq; subst hq
        have gg : act.tmps[25]?.getD undef = .bool false := hI.has 20 25 rfl (hall ⟨20, .guard⟩ (by simp) rfl)
        clear hI hall hnot hcl
        exact .inr ⟨(wanted_of rfl rfl gg).trans rfl, rfl, ⟨_, rfl⟩⟩
      · simp at hq; subst hq
        have gg : act.tmps[25]?.getD undef = .bool false := hI.has 20 25 rfl (hall ⟨20, .guard⟩ (by simp) rfl)
        clear hI hall hnot hcl
        exact .inr ⟨(wanted_of rfl rfl gg).trans rfl, rfl, ⟨_, rfl⟩⟩
      · simp at hq; subst hq
        have gg : act.tmps[25]?.getD undef = .bool false := hI.has 20 25 rfl (hall ⟨20, .guard⟩ (by simp) rfl)
        clear hI hall hnot hcl
        exact .inr ⟨(wanted_of rfl rfl gg).trans rfl, rfl, ⟨_, rfl⟩⟩
      · simp at hq; subst hq
        have gg : act.tmps[25]?.getD undef = .bool false := hI.has 20 25 rfl (hall ⟨20, .guard⟩ (by simp) rfl)
        clear hI hall hnot hcl
        exact .inr ⟨(wanted_of rfl rfl gg).trans rfl, rfl, ⟨_, rfl⟩⟩
      · simp at hq; subst hq
        have gg : act.tmps[25]?.getD undef = .bool false := hI.has 20 25 rfl (hall ⟨20, .guard⟩ (by simp) rfl)
        clear hI hall hnot hcl
        exact .inr ⟨(wanted_of rfl rfl gg).trans rfl, rfl, ⟨_, rfl⟩⟩
      · simp at hq; subst hq
        have gg : act.tmps[25]?.getD undef = .bool false := hI.has 20 25 rfl (hall ⟨20, .guard⟩ (by simp) rfl)
        clear hI hall hnot hcl
        exact .inr ⟨(wanted_of rfl rfl gg).trans rfl, rfl, ⟨_, rfl⟩⟩
      · simp at hq; subst hq
        have gg : act.tmps[25]?.getD undef = .bool false := hI.has 20 25 rfl (hall ⟨20, .guard⟩ (by simp) rfl)
        clear hI hall hnot hcl
        exact .inr ⟨(wanted_of rfl rfl gg).trans rfl, rfl, ⟨_, rfl⟩⟩
      · simp at hq; subst hq
        have gg : act.tmps[25]?.getD undef = .bool false := hI.has 20 25 rfl (hall ⟨20, .guard⟩ (by simp) rfl)
        clear hI hall hnot hcl
        exact .inr ⟨(wanted_of rfl rfl gg).trans rfl, rfl, ⟨_, rfl⟩⟩
      · simp at hq; subst hq
        have gg : act.tmps[25]?.getD undef = .bool false := hI.has 20 25 rfl (hall ⟨20, .guard⟩ (by simp) rfl)
        clear hI hall hnot hcl
        exact .inr ⟨(wanted_of rfl rfl gg).trans rfl, rfl, ⟨_, rfl⟩⟩
      · simp at hq; subst hq
        have g25 : act.tmps[25]?.getD undef = .bool false := hI.has 20 25 rfl (hall ⟨20, .data⟩ (by simp) rfl)
        have g34 : act.tmps[34]?.getD undef = undef := hI.has 29 34 rfl (hall ⟨29, .data⟩ (by simp) rfl)
        clear hI hall hnot hcl
        refine .inl ⟨wanted_none rfl, ?_⟩
        unfold Oper.wp
        go_simp
        all_goals exact ⟨_, rfl, rfl, ⟨_, rfl⟩⟩
      · simp at hq; subst hq
        have g35 : act.tmps[35]?.getD undef = .bool false := hI.has 30 35 rfl (hall ⟨30, .data⟩ (by simp) rfl)
        clear hI hall hnot hcl
        refine .inl ⟨wanted_none rfl, ?_⟩
        unfold Oper.wp
        go_simp
        all_goals exact ⟨_, rfl, rfl, ⟨_, rfl⟩⟩
      · simp at hq; subst hq
        have gg : act.tmps[36]?.getD undef = .bool false := hI.has 31 36 rfl (hall ⟨31, .guard⟩ (by simp) rfl)
        clear hI hall hnot hcl
        exact .inr ⟨(wanted_of rfl rfl gg).trans rfl, rfl, ⟨_, rfl⟩⟩
      · simp at hq; subst hq
        have gg : act.tmps[36]?.getD undef = .bool false := hI.has 31 36 rfl (hall ⟨31, .guard⟩ (by simp) rfl)
        clear hI hall hnot hcl
        exact .inr ⟨(wanted_of rfl rfl gg).trans rfl, rfl, ⟨_, rfl⟩⟩
      · simp at hq; subst hq
        have gg : act.tmps[36]?.getD undef = .bool false := hI.has 31 36 rfl (hall ⟨31, .guard⟩ (by simp) rfl)
        clear hI hall hnot hcl
        exact .inr ⟨(wanted_of rfl rfl gg).trans rfl, rfl, ⟨_, rfl⟩⟩
      · simp at hq; subst hq
        have gg : act.tmps[36]?.getD undef = .bool false := hI.has 31 36 rfl (hall ⟨31, .guard⟩ (by simp) rfl)
        clear hI hall hnot hcl
        exact .inr ⟨(wanted_of rfl rfl gg).trans rfl, rfl, ⟨_, rfl⟩⟩
      · simp at hq; subst hq
        have gg : act.tmps[36]?.getD undef = .bool false := hI.has 31 36 rfl (hall ⟨31, .guard⟩ (by simp) rfl)
        clear hI hall hnot hcl
        exact .inr ⟨(wanted_of rfl rfl gg).trans rfl, rfl, ⟨_, rfl⟩⟩
      · simp at hq; subst hq
        have gg : act.tmps[36]?.getD undef = .bool false := hI.has 31 36 rfl (hall ⟨31, .guard⟩ (by simp) rfl)
        clear hI hall hnot hcl
        exact .inr ⟨(wanted_of rfl rfl gg).trans rfl, rfl, ⟨_, rfl⟩⟩
      · simp at hq; subst hq
        have gg : act.tmps[36]?.getD undef = .bool false := hI.has 31 36 rfl (hall ⟨31, .guard⟩ (by simp) rfl)
        clear hI hall hnot hcl
        exact .inr ⟨(wanted_of rfl rfl gg).trans rfl, rfl, ⟨_, rfl⟩⟩
      · simp at hq; subst hq
        have gg : act.tmps[36]?.getD undef = .bool false := hI.has 31 36 rfl (hall ⟨31, .guard⟩ (by simp) rfl)
        clear hI hall hnot hcl
        exact .inr ⟨(wanted_of rfl rfl gg).trans rfl, rfl, ⟨_, rfl⟩⟩
      · simp at hq; subst hq
        have gg : act.tmps[36]?.getD undef = .bool false := hI.has 31 36 rfl (hall ⟨31, .guard⟩ (by simp) rfl)
        clear hI hall hnot hcl
        exact .inr ⟨(wanted_of rfl rfl gg).trans rfl, rfl, ⟨_, rfl⟩⟩
      · simp at hq; subst hq
        have g36 : act.tmps[36]?.getD undef = .bool false := hI.has 31 36 rfl (hall ⟨31, .data⟩ (by simp) rfl)
        have g45 : act.tmps[45]?.getD undef = undef := hI.has 40 45 rfl (hall ⟨40, .data⟩ (by simp) rfl)
        clear hI hall hnot hcl
        refine .inl ⟨wanted_none rfl, ?_⟩
        unfold Oper.wp
        go_simp
        all_goals exact ⟨_, rfl, rfl, ⟨_, rfl⟩⟩
      · simp at hq; subst hq
        have g46 : act.tmps[46]?.getD undef = .bool false := hI.has 41 46 rfl (hall ⟨41, .data⟩ (by simp) rfl)
        clear hI hall hnot hcl
        refine .inl ⟨wanted_none rfl, ?_⟩
        unfold Oper.wp
        go_simp
        all_goals exact ⟨_, rfl, rfl, ⟨_, rfl⟩⟩
      · simp at hq
    case hend =>
      intro listed act w3 hI hall
      obtain ⟨nn, rfl⟩ := hI.cls
      have g4 : act.tmps[4]?.getD undef = .bool false := hI.has 42 4 rfl (hall 42 (by decide))
      have hd := hI.defers
      clear hI hall
      go_wp2
      refine bodyPost_ret (v := .bool false) (by simp [results, Try.results137, g4, go_sem]) (by first | rfl | exact hd) ?_
      first | refine ⟨?_, nn, rfl⟩ | refine ⟨nn, ?_, rfl⟩
      unfold airS samN1
      rw [show decide _ = _ from P0.out]
      rfl
  · have P0 := Lib.hid p0; clear p0
    cases p1 : decide (canon .f32 h = canon .f32 h')
    · have P1 := Lib.hid p1; clear p1
      go_enter Try.func137, Try.ntmps137
      go_wp2_with fail
      refine wp_region_inv3 (fun q0 v => match q0 with
        | 0 => v = .pointer (some ⟨B, 0, none⟩)
        | 1 => v = .pointer (some ⟨B, 0, none⟩)
        | 2 => v = .pointer (some ⟨B, 0, none⟩)
        | 3 => v = .float .f32 d
        | 4 => v = .pointer (some ⟨B', 0, none⟩)
        | 5 => v = .pointer (some ⟨B', 0, none⟩)
        | 6 => v = .pointer (some ⟨B', 0, none⟩)
        | 7 => v = .float .f32 d'
        | 8 => v = .bool true
        | 9 => v = .bool true
        | 10 => v = .pointer (some ⟨B, 0, none⟩)
        | 11 => v = .pointer (some ⟨B, 0, none⟩)
        | 12 => v = .pointer (some ⟨B, 1, none⟩)
        | 13 => v = .float .f32 h
        | 14 => v = .pointer (some ⟨B', 0, none⟩)
        | 15 => v = .pointer (some ⟨B', 0, none⟩)
        | 16 => v = .pointer (some ⟨B', 1, none⟩)
        | 17 => v = .float .f32 h'
        | 18 => v = .bool false
        | 19 => v = .bool false
        | 20 => v = .bool false
        | 21 => v = undef
        | 22 => v = undef
        | 23 => v = undef
        | 24 => v = undef
        | 25 => v = undef
        | 26 => v = undef
        | 27 => v = undef
        | 28 => v = undef
        | 29 => v = undef
        | 30 => v = .bool false
        | 31 => v = .bool false
        | 32 => v = undef
        | 33 => v = undef
        | 34 => v = undef
        | 35 => v = undef
        | 36 => v = undef
        | 37 => v = undef
        | 38 => v = undef
        | 39 => v = undef
        | 40 => v = undef
        | 41 => v = .bool false
        | 42 => v = .bool false
        | _ => False) (fun _ ww => ∃ nn, ww = w.drewN nn) (by kernel_rfl) (by kernel_rfl) ⟨1, rfl⟩ ?hop ?hend
      case hop =>
        intro q o hq listed act w3 hI hnot hcl hall
        obtain ⟨nn, rfl⟩ := hI.cls
        rcases q with _ | _ | _ | _ | _ | _ | _ | _ | _ | _ | _ | _ | _ | _ | _ | _ | _ | _ | _ | _ | _ | _ | _ | _ | _ | _ | _ | _ | _ | _ | _ | _ | _ | _ | _ | _ | _ | _ | _ | _ | _ | _ | _ | q
        · simp at hq; subst hq
          have g0 : act.tmps[0]?.getD undef = .pointer (some ⟨B, 0, none⟩) := hI.kept 0 (by kernel_rfl)
          clear hI hall hnot hcl
          refine .inl ⟨wanted_none rfl, ?_⟩
          unfold Oper.wp
          go_simp
          all_goals exact ⟨_, rfl, rfl, ⟨_, rfl⟩⟩
        · simp at hq; subst hq
          have g5 : act.tmps[5]?.getD undef = .pointer (some ⟨B, 0, none⟩) := hI.has 0 5 rfl (hall ⟨0, .data⟩ (by simp) rfl)
          clear hI hall hnot hcl
          refine .inl ⟨wanted_none rfl, ?_⟩
          unfold Oper.wp
          go_simp
          all_goals exact ⟨_, rfl, rfl, ⟨_, rfl⟩⟩
        · simp at hq; subst hq
          have g6 : act.tmps[6]?.getD undef = .pointer (some ⟨B, 0, none⟩) := hI.has 1 6 rfl (hall ⟨1, .data⟩ (by simp) rfl)
          clear hI hall hnot hcl
          refine .inl ⟨wanted_none rfl, ?_⟩
          unfold Oper.wp
          go_simp
          all_goals exact ⟨_, rfl, rfl, ⟨_, rfl⟩⟩
        · simp at hq; subst hq
          have g7 : act.tmps[7]?.getD undef = .pointer (some ⟨B, 0, none⟩) := hI.has 2 7 rfl (hall ⟨2, .data⟩ (by simp) rfl)
          clear hI hall hnot hcl
          refine .inl ⟨wanted_none rfl, ?_⟩
          unfold Oper.wp
          go_simp
          all_goals exact ⟨_, rfl, rfl, ⟨_, rfl⟩⟩
        · simp at hq; subst hq
          have g1 : act.tmps[1]?.getD undef = .pointer (some ⟨B', 0, none⟩) := hI.kept 1 (by kernel_rfl)
          clear hI hall hnot hcl
          refine .inl ⟨wanted_none rfl, ?_⟩
          unfold Oper.wp
          go_simp
          all_goals exact ⟨_, rfl, rfl, ⟨_, rfl⟩⟩
        · simp at hq; subst hq
          have g9 : act.tmps[9]?.getD undef = .pointer (some ⟨B', 0, none⟩) := hI.has 4 9 rfl (hall ⟨4, .data⟩ (by simp) rfl)
          clear hI hall hnot hcl
          refine .inl ⟨wanted_none rfl, ?_⟩
          unfold Oper.wp
          go_simp
          all_goals exact ⟨_, rfl, rfl, ⟨_, rfl⟩⟩
        · simp at hq; subst hq
          have g10 : act.tmps[10]?.getD undef = .pointer (some ⟨B', 0, none⟩) := hI.has 5 10 rfl (hall ⟨5, .data⟩ (by simp) rfl)
          clear hI hall hnot hcl
          refine .inl ⟨wanted_none rfl, ?_⟩
          unfold Oper.wp
          go_simp
          all_goals exact ⟨_, rfl, rfl, ⟨_, rfl⟩⟩
        · simp at hq; subst hq
          have g11 : act.tmps[11]?.getD undef = .pointer (some ⟨B', 0, none⟩) := hI.has 6 11 rfl (hall ⟨6, .data⟩ (by simp) rfl)
          clear hI hall hnot hcl
          refine .inl ⟨wanted_none rfl, ?_⟩
          unfold Oper.wp
          go_simp
          all_goals exact ⟨_, rfl, rfl, ⟨_, rfl⟩⟩
        · simp at hq; subst hq
          have g8 : act.tmps[8]?.getD undef = .float .f32 d := hI.has 3 8 rfl (hall ⟨3, .data⟩ (by simp) rfl)
          have g12 : act.tmps[12]?.getD undef = .float .f32 d' := hI.has 7 12 rfl (hall ⟨7, .data⟩ (by simp) rfl)
          clear hI hall hnot hcl
          refine .inl ⟨wanted_none rfl, ?_⟩
          unfold Oper.wp
          go_simp
          refine (s_l01Same _ _ _ A0.out B0.out).mono ?_
          rintro e w4 ⟨rfl, rfl⟩
          rw [P0.out]
          exact ⟨_, rfl, rfl, ⟨_, rfl⟩⟩
        · simp at hq; subst hq
          have g13 : act.tmps[13]?.getD undef = .bool true := hI.has 8 13 rfl (hall ⟨8, .data⟩ (by simp) rfl)
          clear hI hall hnot hcl
          refine .inl ⟨wanted_none rfl, ?_⟩
          unfold Oper.wp
          go_simp
          all_goals exact ⟨_, rfl, rfl, ⟨_, rfl⟩⟩
        · simp at hq; subst hq
          have gg : act.tmps[14]?.getD undef = .bool true := hI.has 9 14 rfl (hall ⟨9, .guard⟩ (by simp) rfl)
          have g0 : act.tmps[0]?.getD undef = .pointer (some ⟨B, 0, none⟩) := hI.kept 0 (by kernel_rfl)
          clear hI hall hnot hcl
          refine .inl ⟨(wanted_of rfl rfl gg).trans rfl, ?_⟩
          clear gg
          unfold Oper.wp
          go_simp
          all_goals exact ⟨_, rfl, rfl, ⟨_, rfl⟩⟩
        · simp at hq; subst hq
          have gg : act.tmps[14]?.getD undef = .bool true := hI.has 9 14 rfl (hall ⟨9, .guard⟩ (by simp) rfl)
          have g15 : act.tmps[15]?.getD undef = .pointer (some ⟨B, 0, none⟩) := hI.has 10 15 rfl (hall ⟨10, .data⟩ (by simp) rfl)
          clear hI hall hnot hcl
          refine .inl ⟨(wanted_of rfl rfl gg).trans rfl, ?_⟩
          clear gg
          unfold Oper.wp
          go_simp
          all_goals exact ⟨_, rfl, rfl, ⟨_, rfl⟩⟩
        · simp at hq; subst hq
          have gg : act.tmps[14]?.getD undef = .bool true := hI.has 9 14 rfl (hall ⟨9, .guard⟩ (by simp) rfl)
          have g16 : act.tmps[16]?.getD undef = .pointer (some ⟨B, 0, none⟩) := hI.has 11 16 rfl (hall ⟨11, .data⟩ (by simp) rfl)
          clear hI hall hnot hcl
          refine .inl ⟨(wanted_of rfl rfl gg).trans rfl, ?_⟩
          clear gg
          unfold Oper.wp
          go_simp
          all_goals exact ⟨_, rfl, rfl, ⟨_, rfl⟩⟩
        · simp at hq; subst hq
          have gg : act.tmps[14]?.getD undef = .bool true := hI.has 9 14 rfl (hall ⟨9, .guard⟩ (by simp) rfl)
          have g17 : act.tmps[17]?.getD undef = .pointer (some ⟨B, 1, none⟩) := hI.has 12 17 rfl (hall ⟨12, .data⟩ (by simp) rfl)
          clear hI hall hnot hcl
          refine .inl ⟨(wanted_of rfl rfl gg).trans rfl, ?_⟩
          clear gg
          unfold Oper.wp
          go_simp
          all_goals exact ⟨_, rfl, rfl, ⟨_, rfl⟩⟩
        · simp at hq; subst hq
          have gg : act.tmps[14]?.getD undef = .bool true := hI.has 9 14 rfl (hall ⟨9, .guard⟩ (by simp) rfl)
          have g1 : act.tmps[1]?.getD undef = .pointer (some ⟨B', 0, none⟩) := hI.kept 1 (by kernel_rfl)
          clear hI hall hnot hcl
          refine .inl ⟨(wanted_of rfl rfl gg).trans rfl, ?_⟩
          clear gg
          unfold Oper.wp
          go_simp
          all_goals exact ⟨_, rfl, rfl, ⟨_, rfl⟩⟩
        · simp at hq; subst hq
          have gg : act.tmps[14]?.getD undef = .bool true := hI.has 9 14 rfl (hall ⟨9, .guard⟩ (by simp) rfl)
          have g19 : act.tmps[19]?.getD undef = .pointer (some ⟨B', 0, none⟩) := hI.has 14 19 rfl (hall ⟨14, .data⟩ (by simp) rfl)
          clear hI hall hnot hcl
          refine .inl ⟨(wanted_of rfl rfl gg).trans rfl, ?_⟩
          clear gg
          unfold Oper.wp
          go_simp
          all_goals exact ⟨_, rfl, rfl, ⟨_, rfl⟩⟩
        · simp at hq; subst hq
          have gg : act.tmps[14]?.getD undef = .bool true := hI.has 9 14 rfl (hall ⟨9, .guard⟩ (by simp) rfl)
          have g20 : act.tmps[20]?.getD undef = .pointer (some ⟨B', 0, none⟩) := hI.has 15 20 rfl (hall ⟨15, .data⟩ (by simp) rfl)
          clear hI hall hnot hcl
          refine .inl ⟨(wanted_of rfl rfl gg).trans rfl, ?_⟩
          clear gg
          unfold Oper.wp
          go_simp
          all_goals exact ⟨_, rfl, rfl, ⟨_, rfl⟩⟩
        · simp at hq; subst hq
          have gg : act.tmps[14]?.getD undef = .bool true := hI.has 9 14 rfl (hall ⟨9, .guard⟩ (by simp) rfl)
          have g21 : act.tmps[21]?.getD undef = .pointer (some ⟨B', 1, none⟩) := hI.has 16 21 rfl (hall ⟨16, .data⟩ (by simp) rfl)
          clear hI hall hnot hcl
          refine .inl ⟨(wanted_of rfl rfl gg).trans rfl, ?_⟩
          clear gg
          unfold Oper.wp
          go_simp
          all_goals exact ⟨_, rfl, rfl, ⟨_, rfl⟩⟩
        · simp at hq; subst hq
          have gg : act.tmps[14]?.getD undef = .bool true := hI.has 9 14 rfl (hall ⟨9, .guard⟩ (by simp) rfl)
          have g18 : act.tmps[18]?.getD undef = .float .f32 h := hI.has 13 18 rfl (hall ⟨13, .data⟩ (by simp) rfl)
          have g22 : act.tmps[22]?.getD undef = .float .f32 h' := hI.has 17 22 rfl (hall ⟨17, .data⟩ (by simp) rfl)
          clear hI hall hnot hcl
          refine .inl ⟨(wanted_of rfl rfl gg).trans rfl, ?_⟩
          clear gg
          unfold Oper.wp
          go_simp
          refine (s_l01Same _ _ _ A1.out B1.out).mono ?_
          rintro e w4 ⟨rfl, rfl⟩
          rw [P1.out]
          exact ⟨_, rfl, rfl, ⟨_, rfl⟩⟩
        · simp at hq; subst hq
          have g14 : act.tmps[14]?.getD undef = .bool true := hI.has 9 14 rfl (hall ⟨9, .data⟩ (by simp) rfl)
          have g23 : act.tmps[23]?.getD undef = .bool false := hI.has 18 23 rfl (hall ⟨18, .data⟩ (by simp) rfl)
          clear hI hall hnot hcl
          refine .inl ⟨wanted_none rfl, ?_⟩
          unfold Oper.wp
          go_simp
          all_goals exact ⟨_, rfl, rfl, ⟨_, rfl⟩⟩
        · simp at hq; subst hq
          have g24 : act.tmps[24]?.getD undef = .bool false := hI.has 19 24 rfl (hall ⟨19, .data⟩ (by simp) rfl)
          clear hI hall hnot hcl
          refine .inl ⟨wanted_none rfl, ?_⟩
          unfold Oper.wp
          go_simp
          all_goals exact ⟨_, rfl, rfl, ⟨_, rfl⟩⟩
        · simp at hq; subst hq
          have gg : act.tmps[25]?.getD undef = .bool false := hI.has 20 25 rfl (hall ⟨20, .guard⟩ (by simp) rfl)
          clear hI hall hnot hcl
          exact .inr ⟨(wanted_of rfl rfl gg).trans rfl, rfl, ⟨_, rfl⟩⟩
        · simp at hq; subst hq
          have gg : act.tmps[25]?.getD undef = .bool false := hI.has 20 25 rfl (hall ⟨20, .guard⟩ (by simp) rfl)
          clear hI hall hnot hcl
          exact .inr ⟨(wanted_of rfl rfl gg).trans rfl, rfl, ⟨_, rfl⟩⟩
        · simp at hq; subst hq
          have gg : act.tmps[25]?.getD undef = .bool false := hI.has 20 25 rfl (hall ⟨20, .guard⟩ (by simp) rfl)
          clear hI hall hnot hcl
          exact .inr ⟨(wanted_of rfl rfl gg).trans rfl, rfl, ⟨_, rfl⟩⟩
        · simp at hq; subst hq
          have gg : act.tmps[25]?.getD undef = .bool false := hI.has 20 25 rfl (hall ⟨20, .guard⟩ (by simp) rfl)
          clear hI hall hnot hcl
          exact .inr ⟨(wanted_of rfl rfl gg).trans rfl, rfl, ⟨_, rfl⟩⟩
        · simp at hq; subst hq
          have gg : act.tmps[25]?.getD undef = .bool false := hI.has 20 25 rfl (hall ⟨20, .guard⟩ (by simp) rfl)
          clear hI hall hnot hcl
          exact .inr ⟨(wanted_of rfl rfl gg).trans rfl, rfl, ⟨_, rfl⟩⟩
        · simp at hq; subst hq
          have gg : act.tmps[25]?.getD undef = .bool false := hI.has 20 25 rfl (hall ⟨20, .guard⟩ (by simp) rfl)
          clear hI hall hnot hcl
          exact .inr ⟨(wanted_of rfl rfl gg).trans rfl, rfl, ⟨_, rfl⟩⟩
        · simp at hq; subst hq
          have gg : act.tmps[25]?.getD undef = .bool false := hI.has 20 25 rfl (hall ⟨20, .guard⟩ (by simp) rfl)
          clear hI hall hnot hcl
          exact .inr ⟨(wanted_of rfl rfl gg).trans rfl, rfl, ⟨_, rfl⟩⟩
        · simp at hq; subst hq
          have gg : act.tmps[25]?.getD undef = .bool false := hI.has 20 25 rfl (hall ⟨20, .guard⟩ (by simp) rfl)
          clear hI hall hnot hcl
          exact .inr ⟨(wanted_of rfl rfl gg).trans rfl, rfl, ⟨_, rfl⟩⟩
        · simp at hq; subst hq
          have gg : act.tmps[25]?.getD undef = .bool false := hI.has 20 25 rfl (hall ⟨20, .guard⟩ (by simp) rfl)
          clear hI hall hnot hcl
          exact .inr ⟨(wanted_of rfl rfl gg).trans rfl, rfl, ⟨_, rfl⟩⟩
        · simp at hq; subst hq
          have g25 : act.tmps[25]?.getD undef = .bool false := hI.has 20 25 rfl (hall ⟨20, .data⟩ (by simp) rfl)
          have g34 : act.tmps[34]?.getD undef = undef := hI.has 29 34 rfl (hall ⟨29, .data⟩ (by simp) rfl)
          clear hI hall hnot hcl
          refine .inl ⟨wanted_none rfl, ?_⟩
          unfold Oper.wp
          go_simp
          all_goals exact ⟨_, rfl, rfl, ⟨_, rfl⟩⟩
        · simp at hq; subst hq
          have g35 : act.tmps[35]?.getD undef = .bool false := hI.has 30 35 rfl (hall ⟨30, .data⟩ (by simp) rfl)
          clear hI hall hnot hcl
          refine .inl ⟨wanted_none rfl, ?_⟩
          unfold Oper.wp
          go_simp
          all_goals exact ⟨_, rfl, rfl, ⟨_, rfl⟩⟩
        · simp at hq; subst hq
          have gg : act.tmps[36]?.getD undef = .bool false := hI.has 31 36 rfl (hall ⟨31, .guard⟩ (by simp) rfl)
          clear hI hall hnot hcl
          exact .inr ⟨(wanted_of rfl rfl gg).trans rfl, rfl, ⟨_, rfl⟩⟩
        · simp at hq; subst hq
          have gg : act.tmps[36]?.getD undef = .bool false := hI.has 31 36 rfl (hall ⟨31, .guard⟩ (by simp) rfl)
          clear hI hall hnot hcl
          exact .inr ⟨(wanted_of rfl rfl gg).trans rfl, rfl, ⟨_, rfl⟩⟩
        · simp at hq; subst hq
          have gg : act.tmps[36]?.getD undef = .bool false := hI.has 31 36 rfl (hall ⟨31, .guard⟩ (by simp) rfl)
          clear hI hall hnot hcl
          exact .inr ⟨(wanted_of rfl rfl gg).trans rfl, rfl, ⟨_, rfl⟩⟩
        · simp at hq; subst hq
          have gg : act.tmps[36]?.getD undef = .bool false := hI.has 31 36 rfl (hall ⟨31, .guard⟩ (by simp) rfl)
          clear hI hall hnot hcl
          exact .inr ⟨(wanted_of rfl rfl gg).trans rfl, rfl, ⟨_, rfl⟩⟩
        · simp at hq; subst hq
          have gg : act.tmps[36]?.getD undef = .bool false := hI.has 31 36 rfl (hall ⟨31, .guard⟩ (by simp) rfl)
          clear hI hall hnot hcl
          exact .inr ⟨(wanted_of rfl rfl gg).trans rfl, rfl, ⟨_, rfl⟩⟩
        · simp at hq; subst hq
          have gg : act.tmps[36]?.getD undef = .bool false := hI.has 31 36 rfl (hall ⟨31, .guard⟩ (by simp) rfl)
          clear hI hall hnot hcl
          exact .inr ⟨(wanted_of rfl rfl gg).trans rfl, rfl, ⟨_, rfl⟩⟩
        · simp at hq; subst hq
          have gg : act.tmps[36]?.getD undef = .bool false := hI.has 31 36 rfl (hall ⟨31, .guard⟩ (by simp) rfl)
          clear hI hall hnot hcl
          exact .inr ⟨(wanted_of rfl rfl gg).trans rfl, rfl, ⟨_, rfl⟩⟩
        · simp at hq; subst hq
          have gg : act.tmps[36]?.getD undef = .bool false := hI.has 31 36 rfl (hall ⟨31, .guard⟩ (by simp) rfl)
          clear hI hall hnot hcl
          exact .inr ⟨(wanted_of rfl rfl gg).trans rfl, rfl, ⟨_, rfl⟩⟩
        · simp at hq; subst hq
          have gg : act.tmps[36]?.getD undef = .bool false := hI.has 31 36 rfl (hall ⟨31, .guard⟩ (by simp) rfl)
          clear hI hall hnot hcl
          exact .inr ⟨(wanted_of rfl rfl gg).trans rfl, rfl, ⟨_, rfl⟩⟩
        · simp at hq; subst hq
          have g36 : act.tmps[36]?.getD undef = .bool false := hI.has 31 36 rfl (hall ⟨31, .data⟩ (by simp) rfl)
          have g45 : act.tmps[45]?.getD undef = undef := hI.has 40 45 rfl (hall ⟨40, .data⟩ (by simp) rfl)
          clear hI hall hnot hcl
          refine .inl ⟨wanted_none rfl, ?_⟩
          unfold Oper.wp
          go_simp
          all_goals exact ⟨_, rfl, rfl, ⟨_, rfl⟩⟩
        · simp at hq; subst hq
          have g46 : act.tmps[46]?.getD undef = .bool false := hI.has 41 46 rfl (hall ⟨41, .data⟩ (by simp) rfl)
          clear hI hall hnot hcl
          refine .inl ⟨wanted_none rfl, ?_⟩
          unfold Oper.wp
          go_simp
          all_goals exact ⟨_, rfl, rfl, ⟨_, rfl⟩⟩
        · simp at hq
      case hend =>
        intro listed act w3 hI hall
        obtain ⟨nn, rfl⟩ := hI.cls
        have g4 : act.tmps[4]?.getD undef = .bool false := hI.has 42 4 rfl (hall 42 (by decide))
        have hd := hI.defers
        clear hI hall
        go_wp2
        refine bodyPost_ret (v := .bool false) (by simp [results, Try.results137, g4, go_sem]) (by first | rfl | exact hd) ?_
        first | refine ⟨?_, nn, rfl⟩ | refine ⟨nn, ?_, rfl⟩
        unfold airS samN1
        rw [show decide _ = _ from P0.out, show decide _ = _ from P1.out]
        rfl
    · have P1 := Lib.hid p1; clear p1
      cases p2 : decide (canon .f32 s = canon .f32 s')
      · have P2 := Lib.hid p2; clear p2
        go_enter Try.func137, Try.ntmps137
        go_wp2_with fail
        refine wp_region_inv3 (fun q0 v => match q0 with
          | 0 => v = .pointer (some ⟨B, 0, none⟩)
          | 1 => v = .pointer (some ⟨B, 0, none⟩)
          | 2 => v = .pointer (some ⟨B, 0, none⟩)
          | 3 => v = .float .f32 d
          | 4 => v = .pointer (some ⟨B', 0, none⟩)
          | 5 => v = .pointer (some ⟨B', 0, none⟩)
          | 6 => v = .pointer (some ⟨B', 0, none⟩)
          | 7 => v = .float .f32 d'
          | 8 => v = .bool true
          | 9 => v = .bool true
          | 10 => v = .pointer (some ⟨B, 0, none⟩)
          | 11 => v = .pointer (some ⟨B, 0, none⟩)
          | 12 => v = .pointer (some ⟨B, 1, none⟩)
          | 13 => v = .float .f32 h
          | 14 => v = .pointer (some ⟨B', 0, none⟩)
          | 15 => v = .pointer (some ⟨B', 0, none⟩)
          | 16 => v = .pointer (some ⟨B', 1, none⟩)
          | 17 => v = .float .f32 h'
          | 18 => v = .bool true
          | 19 => v = .bool true
          | 20 => v = .bool true
          | 21 => v = .pointer (some ⟨B, 0, none⟩)
          | 22 => v = .pointer (some ⟨B, 0, none⟩)
          | 23 => v = .pointer (some ⟨B, 2, none⟩)
          | 24 => v = .float .f32 s
          | 25 => v = .pointer (some ⟨B', 0, none⟩)
          | 26 => v = .pointer (some ⟨B', 0, none⟩)
          | 27 => v = .pointer (some ⟨B', 2, none⟩)
          | 28 => v = .float .f32 s'
          | 29 => v = .bool false
          | 30 => v = .bool false
          | 31 => v = .bool false
          | 32 => v = undef
          | 33 => v = undef
          | 34 => v = undef
          | 35 => v = undef
          | 36 => v = undef
          | 37 => v = undef
          | 38 => v = undef
          | 39 => v = undef
          | 40 => v = undef
          | 41 => v = .bool false
          | 42 => v = .bool false
          | _ => False) (fun _ ww => ∃ nn, ww = w.drewN nn) (by kernel_rfl) (by kernel_rfl) ⟨1, rfl⟩ ?hop ?hend
        case hop =>
          intro q o hq listed act w3 hI hnot hcl hall
          obtain ⟨nn, rfl⟩ := hI.cls
          rcases q with _ | _ | _ | _ | _ | _ | _ | _ | _ | _ | _ | _ | _ | _ | _ | _ | _ | _ | _ | _ | _ | _ | _ | _ | _ | _ | _ | _ | _ | _ | _ | _ | _ | _ | _ | _ | _ | _ | _ | _ | _ | _ | _ | q
          · simp at hq; subst hq
            have g0 : act.tmps[0]?.getD undef = .pointer (some ⟨B, 0, none⟩) := hI.kept 0 (by kernel_rfl)
            clear hI hall hnot hcl
            refine .inl ⟨wanted_none rfl, ?_⟩
            unfold Oper.wp
            go_simp
            all_goals exact ⟨_, rfl, rfl, ⟨_, rfl⟩⟩
          · simp at hq; subst hq
            have g5 : act.tmps[5]?.getD undef = .pointer (some ⟨B, 0, none⟩) := hI.has 0 5 rfl (hall ⟨0, .data⟩ (by simp) rfl)
            clear hI hall hnot hcl
            refine .inl ⟨wanted_none rfl, ?_⟩
            unfold Oper.wp
            go_simp
            all_goals exact ⟨_, rfl, rfl, ⟨_, rfl⟩⟩
          · simp at hq; subst hq
            have g6 : act.tmps[6]?.getD undef = .pointer (some ⟨B, 0, none⟩) := hI.has 1 6 rfl (hall ⟨1, .data⟩ (by simp) rfl)
            clear hI hall hnot hcl
            refine .inl ⟨wanted_none rfl, ?_⟩
            unfold Oper.wp
            go_simp
            all_goals exact ⟨_, rfl, rfl, ⟨_, rfl⟩⟩
          · simp at hq; subst hq
            have g7 : act.tmps[7]?.getD undef = .pointer (some ⟨B, 0, none⟩) := hI.has 2 7 rfl (hall ⟨2, .data⟩ (by simp) rfl)
            clear hI hall hnot hcl
            refine .inl ⟨wanted_none rfl, ?_⟩
            unfold Oper.wp
            go_simp
            all_goals exact ⟨_, rfl, rfl, ⟨_, rfl⟩⟩
          · simp at hq; subst hq
            have g1 : act.tmps[1]?.getD undef = .pointer (some ⟨B', 0, none⟩) := hI.kept 1 (by kernel_rfl)
            clear hI hall hnot hcl
            refine .inl ⟨wanted_none rfl, ?_⟩
            unfold Oper.wp
            go_simp
            all_goals exact ⟨_, rfl, rfl, ⟨_, rfl⟩⟩
          · simp at hq; subst hq
            have g9 : act.tmps[9]?.getD undef = .pointer (some ⟨B', 0, none⟩) := hI.has 4 9 rfl (hall ⟨4, .data⟩ (by simp) rfl)
            clear hI hall hnot hcl
            refine .inl ⟨wanted_none rfl, ?_⟩
            unfold Oper.wp
            go_simp
            all_goals exact ⟨_, rfl, rfl, ⟨_, rfl⟩⟩
          · simp at hq; subst hq
            have g10 : act.tmps[10]?.getD undef = .pointer (some ⟨B', 0, none⟩) := hI.has 5 10 rfl (hall ⟨5, .data⟩ (by simp) rfl)
            clear hI hall hnot hcl
            refine .inl ⟨wanted_none rfl, ?_⟩
            unfold Oper.wp
            go_simp
            all_goals exact ⟨_, rfl, rfl, ⟨_, rfl⟩⟩
          · simp at hq; subst hq
            have g11 : act.tmps[11]?.getD undef = .pointer (some ⟨B', 0, none⟩) := hI.has 6 11 rfl (hall ⟨6, .data⟩ (by simp) rfl)
            clear hI hall hnot hcl
            refine .inl ⟨wanted_none rfl, ?_⟩
            unfold Oper.wp
            go_simp
            all_goals exact ⟨_, rfl, rfl, ⟨_, rfl⟩⟩
          · simp at hq; subst hq
            have g8 : act.tmps[8]?.getD undef = .float .f32 d := hI.has 3 8 rfl (hall ⟨3, .data⟩ (by simp) rfl)
            have g12 : act.tmps[12]?.getD undef = .float .f32 d' := hI.has 7 12 rfl (hall ⟨7, .data⟩ (by simp) rfl)
            clear hI hall hnot hcl
            refine .inl ⟨wanted_none rfl, ?_⟩
            unfold Oper.wp
            go_simp
            refine (s_l01Same _ _ _ A0.out B0.out).mono ?_
            rintro e w4 ⟨rfl, rfl⟩
            rw [P0.out]
            exact ⟨_, rfl, rfl, ⟨_, rfl⟩⟩
          · simp at hq; subst hq
            have g13 : act.tmps[13]?.getD undef = .bool true := hI.has 8 13 rfl (hall ⟨8, .data⟩ (by simp) rfl)
            clear hI hall hnot hcl
            refine .inl ⟨wanted_none rfl, ?_⟩
            unfold Oper.wp
            go_simp
            all_goals exact ⟨_, rfl, rfl, ⟨_, rfl⟩⟩
          · simp at hq; subst hq
            have gg : act.tmps[14]?.getD undef = .bool true := hI.has 9 14 rfl (hall ⟨9, .guard⟩ (by simp) rfl)
            have g0 : act.tmps[0]?.getD undef = .pointer (some ⟨B, 0, none⟩) := hI.kept 0 (by kernel_rfl)
            clear hI hall hnot hcl
            refine .inl ⟨(wanted_of rfl rfl gg).trans rfl, ?_⟩
            clear gg
            unfold Oper.wp
            go_simp
            all_goals exact ⟨_, rfl, rfl, ⟨_, rfl⟩⟩
          · simp at hq; subst hq
            have gg : act.tmps[14]?.getD undef = .bool true := hI.has 9 14 rfl (hall ⟨9, .guard⟩ (by simp) rfl)
            have g15 : act.tmps[15]?.getD undef = .pointer (some ⟨B, 0, none⟩) := hI.has 10 15 rfl (hall ⟨10, .data⟩ (by simp) rfl)
            clear hI hall hnot hcl
            refine .inl ⟨(wanted_of rfl rfl gg).trans rfl, ?_⟩
            clear gg
            unfold Oper.wp
            go_simp
            all_goals exact ⟨_, rfl, rfl, ⟨_, rfl⟩⟩
          · simp at hq; subst hq
            have gg : act.tmps[14]?.getD undef = .bool true := hI.has 9 14 rfl (hall ⟨9, .guard⟩ (by simp) rfl)
            have g16 : act.tmps[16]?.getD undef = .pointer (some ⟨B, 0, none⟩) := hI.has 11 16 rfl (hall ⟨11, .data⟩ (by simp) rfl)
            clear hI hall hnot hcl
            refine .inl ⟨(wanted_of rfl rfl gg).trans rfl, ?_⟩
            clear gg
            unfold Oper.wp
            go_simp
            all_goals exact ⟨_, rfl, rfl, ⟨_, rfl⟩⟩
          · simp at hq; subst hq
            have gg : act.tmps[14]?.getD undef = .bool true := hI.has 9 14 rfl (hall ⟨9, .guard⟩ (by simp) rfl)
            have g17 : act.tmps[17]?.getD undef = .pointer (some ⟨B, 1, none⟩) := hI.has 12 17 rfl (hall ⟨12, .data⟩ (by simp) rfl)
            clear hI hall hnot hcl
            refine .inl ⟨(wanted_of rfl rfl gg).trans rfl, ?_⟩
            clear gg
            unfold Oper.wp
            go_simp
            all_goals exact ⟨_, rfl, rfl, ⟨_, rfl⟩⟩
          · simp at hq; subst hq
            have gg : act.tmps[14]?.getD undef = .bool true := hI.has 9 14 rfl (hall ⟨9, .guard⟩ (by simp) rfl)
            have g1 : act.tmps[1]?.getD undef = .pointer (some ⟨B', 0, none⟩) := hI.kept 1 (by kernel_rfl)
            clear hI hall hnot hcl
            refine .inl ⟨(wanted_of rfl rfl gg).trans rfl, ?_⟩
            clear gg
            unfold Oper.wp
            go_simp
            all_goals exact ⟨_, rfl, rfl, ⟨_, rfl⟩⟩
          · simp at hq; subst hq
            have gg : act.tmps[14]?.getD undef = .bool true := hI.has 9 14 rfl (hall ⟨9, .guard⟩ (by simp) rfl)
            have g19 : act.tmps[19]?.getD undef = .pointer (some ⟨B', 0, none⟩) := hI.has 14 19 rfl (hall ⟨14, .data⟩ (by simp) rfl)
            clear hI hall hnot hcl
            refine .inl ⟨(wanted_of rfl rfl gg).trans rfl, ?_⟩
            clear gg
            unfold Oper.wp
            go_simp
            all_goals exact ⟨_, rfl, rfl, ⟨_, rfl⟩⟩
          · simp at hq; subst hq
            have gg : act.tmps[14]?.getD undef = .bool true := hI.has 9 14 rfl (hall ⟨9, .guard⟩ (by simp) rfl)
            have g20 : act.tmps[20]?.getD undef = .pointer (some ⟨B', 0, none⟩) := hI.has 15 20 rfl (hall ⟨15, .data⟩ (by simp) rfl)
            clear hI hall hnot hcl
            refine .inl ⟨(wanted_of rfl rfl gg).trans rfl, ?_⟩
            clear gg
            unfold Oper.wp
            go_simp
            all_goals exact ⟨_, rfl, rfl, ⟨_, rfl⟩⟩
          · simp at hq; subst hq
            have gg : act.tmps[14]?.getD undef = .bool true := hI.has 9 14 rfl (hall ⟨9, .guard⟩ (by simp) rfl)
            have g21 : act.tmps[21]?.getD undef = .pointer (some ⟨B', 1, none⟩) := hI.has 16 21 rfl (hall ⟨16, .data⟩ (by simp) rfl)
            clear hI hall hnot hcl
            refine .inl ⟨(wanted_of rfl rfl gg).trans rfl, ?_⟩
            clear gg
            unfold Oper.wp
            go_simp
            all_goals exact ⟨_, rfl, rfl, ⟨_, rfl⟩⟩
          · simp at hq; subst hq
            have gg : act.tmps[14]?.getD undef = .bool true := hI.has 9 14 rfl (hall ⟨9, .guard⟩ (by simp) rfl)
            have g18 : act.tmps[18]?.getD undef = .float .f32 h := hI.has 13 18 rfl (hall ⟨13, .data⟩ (by simp) rfl)
            have g22 : act.tmps[22]?.getD undef = .float .f32 h' := hI.has 17 22 rfl (hall ⟨17, .data⟩ (by simp) rfl)
            clear hI hall hnot hcl
            refine .inl ⟨(wanted_of rfl rfl gg).trans rfl, ?_⟩
            clear gg
            unfold Oper.wp
            go_simp
            refine (s_l01Same _ _ _ A1.out B1.out).mono ?_
            rintro e w4 ⟨rfl, rfl⟩
            rw [P1.out]
            exact ⟨_, rfl, rfl, ⟨_, rfl⟩⟩
          · simp at hq; subst hq
            have g14 : act.tmps[14]?.getD undef = .bool true := hI.has 9 14 rfl (hall ⟨9, .data⟩ (by simp) rfl)
            have g23 : act.tmps[23]?.getD undef = .bool true := hI.has 18 23 rfl (hall ⟨18, .data⟩ (by simp) rfl)
            clear hI hall hnot hcl
            refine .inl ⟨wanted_none rfl, ?_⟩
            unfold Oper.wp
            go_simp
            all_goals exact ⟨_, rfl, rfl, ⟨_, rfl⟩⟩
          · simp at hq; subst hq
            have g24 : act.tmps[24]?.getD undef = .bool true := hI.has 19 24 rfl (hall ⟨19, .data⟩ (by simp) rfl)
            clear hI hall hnot hcl
            refine .inl ⟨wanted_none rfl, ?_⟩
            unfold Oper.wp
            go_simp
            all_goals exact ⟨_, rfl, rfl, ⟨_, rfl⟩⟩
          · simp at hq; subst hq
            have gg : act.tmps[25]?.getD undef = .bool true := hI.has 20 25 rfl (hall ⟨20, .guard⟩ (by simp) rfl)
            have g0 : act.tmps[0]?.getD undef = .pointer (some ⟨B, 0, none⟩) := hI.kept 0 (by kernel_rfl)
            clear hI hall hnot hcl
            refine .inl ⟨(wanted_of rfl rfl gg).trans rfl, ?_⟩
            clear gg
            unfold Oper.wp
            go_simp
            all_goals exact ⟨_, rfl, rfl, ⟨_, rfl⟩⟩
          · simp at hq; subst hq
            have gg : act.tmps[25]?.getD undef = .bool true := hI.has 20 25 rfl (hall ⟨20, .guard⟩ (by simp) rfl)
            have g26 : act.tmps[26]?.getD undef = .pointer (some ⟨B, 0, none⟩) := hI.has 21 26 rfl (hall ⟨21, .data⟩ (by simp) rfl)
            clear hI hall hnot hcl
            refine .inl ⟨(wanted_of rfl rfl gg).trans rfl, ?_⟩
            clear gg
            unfold Oper.wp
            go_simp
            all_goals exact ⟨_, rfl, rfl, ⟨_, rfl⟩⟩
          · simp at hq; subst hq
            have gg : act.tmps[25]?.getD undef = .bool true := hI.has 20 25 rfl (hall ⟨20, .guard⟩ (by simp) rfl)
            have g27 : act.tmps[27]?.getD undef = .pointer (some ⟨B, 0, none⟩) := hI.has 22 27 rfl (hall ⟨22, .data⟩ (by simp) rfl)
            clear hI hall hnot hcl
            refine .inl ⟨(wanted_of rfl rfl gg).trans rfl, ?_⟩
            clear gg
            unfold Oper.wp
            go_simp
            all_goals exact ⟨_, rfl, rfl, ⟨_, rfl⟩⟩
          · simp at hq; subst hq
            have gg : act.tmps[25]?.getD undef = .bool true := hI.has 20 25 rfl (hall ⟨20, .guard⟩ (by simp) rfl)
            have g28 : act.tmps[28]?.getD undef = .pointer (some ⟨B, 2, none⟩) := hI.has 23 28 rfl (hall ⟨23, .data⟩ (by simp) rfl)
            clear hI hall hnot hcl
            refine .inl ⟨(wanted_of rfl rfl gg).trans rfl, ?_⟩
            clear gg
            unfold Oper.wp
            go_simp
            all_goals exact ⟨_, rfl, rfl, ⟨_, rfl⟩⟩
          · simp at hq; subst hq
            have gg : act.tmps[25]?.getD undef = .bool true := hI.has 20 25 rfl (hall ⟨20, .guard⟩ (by simp) rfl)
            have g1 : act.tmps[1]?.getD undef = .pointer (some ⟨B', 0, none⟩) := hI.kept 1 (by kernel_rfl)
            clear hI hall hnot hcl
            refine .inl ⟨(wanted_of rfl rfl gg).trans rfl, ?_⟩
            clear gg
            unfold Oper.wp
            go_simp
            all_goals exact ⟨_, rfl, rfl, ⟨_, rfl⟩⟩
          · simp at hq; subst hq
            have gg : act.tmps[25]?.getD undef = .bool true := hI.has 20 25 rfl (hall ⟨20, .guard⟩ (by simp) rfl)
            have g30 : act.tmps[30]?.getD undef = .pointer (some ⟨B', 0, none⟩) := hI.has 25 30 rfl (hall ⟨25, .data⟩ (by simp) rfl)
            clear hI hall hnot hcl
            refine .inl ⟨(wanted_of rfl rfl gg).trans rfl, ?_⟩
            clear gg
            unfold Oper.wp
            go_simp
            all_goals exact ⟨_, rfl, rfl, ⟨_, rfl⟩⟩
          · simp at hq; subst hq
            have gg : act.tmps[25]?.getD undef = .bool true := hI.has 20 25 rfl (hall ⟨20, .guard⟩ (by simp) rfl)
            have g31 : act.tmps[31]?.getD undef = .pointer (some ⟨B', 0, none⟩) := hI.has 26 31 rfl (hall ⟨26, .data⟩ (by simp) rfl)
            clear hI hall hnot hcl
            refine .inl ⟨(wanted_of rfl rfl gg).trans rfl, ?_⟩
            clear gg
            unfold Oper.wp
            go_simp
            all_goals exact ⟨_, rfl, rfl, ⟨_, rfl⟩⟩
          · simp at hq; subst hq
            have gg : act.tmps[25]?.getD undef = .bool true := hI.has 20 25 rfl (hall ⟨20, .guard⟩ (by simp) rfl)
            have g32 : act.tmps[32]?.getD undef = .pointer (some ⟨B', 2, none⟩) := hI.has 27 32 rfl (hall ⟨27, .data⟩ (by simp) rfl)
            clear hI hall hnot hcl
            refine .inl ⟨(wanted_of rfl rfl gg).trans rfl, ?_⟩
            clear gg
            unfold Oper.wp
            go_simp
            all_goals exact ⟨_, rfl, rfl, ⟨_, rfl⟩⟩
          · simp at hq; subst hq
            have gg : act.tmps[25]?.getD undef = .bool true := hI.has 20 25 rfl (hall ⟨20, .guard⟩ (by simp) rfl)
            have g29 : act.tmps[29]?.getD undef = .float .f32 s := hI.has 24 29 rfl (hall ⟨24, .data⟩ (by simp) rfl)
            have g33 : act.tmps[33]?.getD undef = .float .f32 s' := hI.has 28 33 rfl (hall ⟨28, .data⟩ (by simp) rfl)
            clear hI hall hnot hcl
            refine .inl ⟨(wanted_of rfl rfl gg).trans rfl, ?_⟩
            clear gg
            unfold Oper.wp
            go_simp
            refine (s_l01Same _ _ _ A2.out B2.out).mono ?_
            rintro e w4 ⟨rfl, rfl⟩
            rw [P2.out]
            exact ⟨_, rfl, rfl, ⟨_, rfl⟩⟩
          · simp at hq; subst hq
            have g25 : act.tmps[25]?.getD undef = .bool true := hI.has 20 25 rfl (hall ⟨20, .data⟩ (by simp) rfl)
            have g34 : act.tmps[34]?.getD undef = .bool false := hI.has 29 34 rfl (hall ⟨29, .data⟩ (by simp) rfl)
            clear hI hall hnot hcl
            refine .inl ⟨wanted_none rfl, ?_⟩
            unfold Oper.wp
            go_simp
            all_goals exact ⟨_, rfl, rfl, ⟨_, rfl⟩⟩
          · simp at hq; subst hq
            have g35 : act.tmps[35]?.getD undef = .bool false := hI.has 30 35 rfl (hall ⟨30, .data⟩ (by simp) rfl)
            clear hI hall hnot hcl
            refine .inl ⟨wanted_none rfl, ?_⟩
            unfold Oper.wp
            go_simp
            all_goals exact ⟨_, rfl, rfl, ⟨_, rfl⟩⟩
          · simp at hq; subst hq
            have gg : act.tmps[36]?.getD undef = .bool false := hI.has 31 36 rfl (hall ⟨31, .guard⟩ (by simp) rfl)
            clear hI hall hnot hcl
            exact .inr ⟨(wanted_of rfl rfl gg).trans rfl, rfl, ⟨_, rfl⟩⟩
          · simp at hq; subst hq
            have gg : act.tmps[36]?.getD undef = .bool false := hI.has 31 36 rfl (hall ⟨31, .guard⟩ (by simp) rfl)
            clear hI hall hnot hcl
            exact .inr ⟨(wanted_of rfl rfl gg).trans rfl, rfl, ⟨_, rfl⟩⟩
          · simp at hq; subst hq
            have gg : act.tmps[36]?.getD undef = .bool false := hI.has 31 36 rfl (hall ⟨31, .guard⟩ (by simp) rfl)
            clear hI hall hnot hcl
            exact .inr ⟨(wanted_of rfl rfl gg).trans rfl, rfl, ⟨_, rfl⟩⟩
          · simp at hq; subst hq
            have gg : act.tmps[36]?.getD undef = .bool false := hI.has 31 36 rfl (hall ⟨31, .guard⟩ (by simp) rfl)
            clear hI hall hnot hcl
            exact .inr ⟨(wanted_of rfl rfl gg).trans rfl, rfl, ⟨_, rfl⟩⟩
          · simp at hq; subst hq
            have gg : act.tmps[36]?.getD undef = .bool false := hI.has 31 36 rfl (hall ⟨31, .guard⟩ (by simp) rfl)
            clear hI hall hnot hcl
            exact .inr ⟨(wanted_of rfl rfl gg).trans rfl, rfl, ⟨_, rfl⟩⟩
          · simp at hq; subst hq
            have gg : act.tmps[36]?.getD undef = .bool false := hI.has 31 36 rfl (hall ⟨31, .guard⟩ (by simp) rfl)
            clear hI hall hnot hcl
            exact .inr ⟨(wanted_of rfl rfl gg).trans rfl, rfl, ⟨_, rfl⟩⟩
          · simp at hq; subst hq
            have gg : act.tmps[36]?.getD undef = .bool false := hI.has 31 36 rfl (hall ⟨31, .guard⟩ (by simp) rfl)
            clear hI hall hnot hcl
            exact .inr ⟨(wanted_of rfl rfl gg).trans rfl, rfl, ⟨_, rfl⟩⟩
          · simp at hq; subst hq
            have gg : act.tmps[36]?.getD undef = .bool false := hI.has 31 36 rfl (hall ⟨31, .guard⟩ (by simp) rfl)
            clear hI hall hnot hcl
            exact .inr ⟨(wanted_of rfl rfl gg).trans rfl, rfl, ⟨_, rfl⟩⟩
          · simp at hq; subst hq
            have gg : act.tmps[36]?.getD undef = .bool false := hI.has 31 36 rfl (hall ⟨31, .guard⟩ (by simp) rfl)
            clear hI hall hnot hcl
            exact .inr ⟨(wanted_of rfl rfl gg).trans rfl, rfl, ⟨_, rfl⟩⟩
          · simp at hq; subst hq
            have g36 : act.tmps[36]?.getD undef = .bool false := hI.has 31 36 rfl (hall ⟨31, .data⟩ (by simp) rfl)
            have g45 : act.tmps[45]?.getD undef = undef := hI.has 40 45 rfl (hall ⟨40, .data⟩ (by simp) rfl)
            clear hI hall hnot hcl
            refine .inl ⟨wanted_none rfl, ?_⟩
            unfold Oper.wp
            go_simp
            all_goals exact ⟨_, rfl, rfl, ⟨_, rfl⟩⟩
          · simp at hq; subst hq
            have g46 : act.tmps[46]?.getD undef = .bool false := hI.has 41 46 rfl (hall ⟨41, .data⟩ (by simp) rfl)
            clear hI hall hnot hcl
            refine .inl ⟨wanted_none rfl, ?_⟩
            unfold Oper.wp
            go_simp
            all_goals exact ⟨_, rfl, rfl, ⟨_, rfl⟩⟩
          · simp at hq
        case hend =>
          intro listed act w3 hI hall
          obtain ⟨nn, rfl⟩ := hI.cls
          have g4 : act.tmps[4]?.getD undef = .bool false := hI.has 42 4 rfl (hall 42 (by decide))
          have hd := hI.defers
          clear hI hall
          go_wp2
          refine bodyPost_ret (v := .bool false) (by simp [results, Try.results137, g4, go_sem]) (by first | rfl | exact hd) ?_
          first | refine ⟨?_, nn, rfl⟩ | refine ⟨nn, ?_, rfl⟩
          unfold airS samN1
          rw [show decide _ = _ from P0.out, show decide _ = _ from P1.out, show decide _ = _ from P2.out]
          rfl
      · have P2 := Lib.hid p2; clear p2
        go_enter Try.func137, Try.ntmps137
        go_wp2_with fail
        refine wp_region_inv3 (fun q0 v => match q0 with
          | 0 => v = .pointer (some ⟨B, 0, none⟩)
          | 1 => v = .pointer (some ⟨B, 0, none⟩)
          | 2 => v = .pointer (some ⟨B, 0, none⟩)
          | 3 => v = .float .f32 d
          | 4 => v = .pointer (some ⟨B', 0, none⟩)
          | 5 => v = .pointer (some ⟨B', 0, none⟩)
          | 6 => v = .pointer (some ⟨B', 0, none⟩)
          | 7 => v = .float .f32 d'
          | 8 => v = .bool true
          | 9 => v = .bool true
          | 10 => v = .pointer (some ⟨B, 0, none⟩)
          | 11 => v = .pointer (some ⟨B, 0, none⟩)
          | 12 => v = .pointer (some ⟨B, 1, none⟩)
          | 13 => v = .float .f32 h
          | 14 => v = .pointer (some ⟨B', 0, none⟩)
          | 15 => v = .pointer (some ⟨B', 0, none⟩)
          | 16 => v = .pointer (some ⟨B', 1, none⟩)
          | 17 => v = .float .f32 h'
          | 18 => v = .bool true
          | 19 => v = .bool true
          | 20 => v = .bool true
          | 21 => v = .pointer (some ⟨B, 0, none⟩)
          | 22 => v = .pointer (some ⟨B, 0, none⟩)
          | 23 => v = .pointer (some ⟨B, 2, none⟩)
          | 24 => v = .float .f32 s
          | 25 => v = .pointer (some ⟨B', 0, none⟩)
          | 26 => v = .pointer (some ⟨B', 0, none⟩)
          | 27 => v = .pointer (some ⟨B', 2, none⟩)
          | 28 => v = .float .f32 s'
          | 29 => v = .bool true
          | 30 => v = .bool true
          | 31 => v = .bool true
          | 32 => v = .pointer (some ⟨B, 0, none⟩)
          | 33 => v = .pointer (some ⟨B, 0, none⟩)
          | 34 => v = .pointer (some ⟨B, 3, none⟩)
          | 35 => v = .float .f32 k
          | 36 => v = .pointer (some ⟨B', 0, none⟩)
          | 37 => v = .pointer (some ⟨B', 0, none⟩)
          | 38 => v = .pointer (some ⟨B', 3, none⟩)
          | 39 => v = .float .f32 k'
          | 40 => v = .bool (decide (canon .f32 k = canon .f32 k'))
          | 41 => v = .bool (decide (canon .f32 k = canon .f32 k'))
          | 42 => v = .bool (decide (canon .f32 k = canon .f32 k'))
          | _ => False) (fun _ ww => ∃ nn, ww = w.drewN nn) (by kernel_rfl) (by kernel_rfl) ⟨1, rfl⟩ ?hop ?hend
        case hop =>
          intro q o hq listed act w3 hI hnot hcl hall
          obtain ⟨nn, rfl⟩ := hI.cls
          rcases q with _ | _ | _ | _ | _ | _ | _ | _ | _ | _ | _ | _ | _ | _ | _ | _ | _ | _ | _ | _ | _ | _ | _ | _ | _ | _ | _ | _ | _ | _ | _ | _ | _ | _ | _ | _ | _ | _ | _ | _ | _ | _ | _ | q
          · simp at hq; subst hq
            have g0 : act.tmps[0]?.getD undef = .pointer (some ⟨B, 0, none⟩) := hI.kept 0 (by kernel_rfl)
            clear hI hall hnot hcl
            refine .inl ⟨wanted_none rfl, ?_⟩
            unfold Oper.wp
            go_simp
            all_goals exact ⟨_, rfl, rfl, ⟨_, rfl⟩⟩
          · simp at hq; subst hq
            have g5 : act.tmps[5]?.getD undef = .pointer (some ⟨B, 0, none⟩) := hI.has 0 5 rfl (hall ⟨0, .data⟩ (by simp) rfl)
            clear hI hall hnot hcl
            refine .inl ⟨wanted_none rfl, ?_⟩
            unfold Oper.wp
            go_simp
            all_goals exact ⟨_, rfl, rfl, ⟨_, rfl⟩⟩
          · simp at hq; subst hq
            have g6 : act.tmps[6]?.getD undef = .pointer (some ⟨B, 0, none⟩) := hI.has 1 6 rfl (hall ⟨1, .data⟩ (by simp) rfl)
            clear hI hall hnot hcl
            refine .inl ⟨wanted_none rfl, ?_⟩
            unfold Oper.wp
            go_simp
            all_goals exact ⟨_, rfl, rfl, ⟨_, rfl⟩⟩
          · simp at hq; subst hq
            have g7 : act.tmps[7]?.getD undef = .pointer (some ⟨B, 0, none⟩) := hI.has 2 7 rfl (hall ⟨2, .data⟩ (by simp) rfl)
            clear hI hall hnot hcl
            refine .inl ⟨wanted_none rfl, ?_⟩
            unfold Oper.wp
            go_simp
            all_goals exact ⟨_, rfl, rfl, ⟨_, rfl⟩⟩
          · simp at hq; subst hq
            have g1 : act.tmps[1]?.getD undef = .pointer (some ⟨B', 0, none⟩) := hI.kept 1 (by kernel_rfl)
            clear hI hall hnot hcl
            refine .inl ⟨wanted_none rfl, ?_⟩
            unfold Oper.wp
            go_simp
            all_goals exact ⟨_, rfl, rfl, ⟨_, rfl⟩⟩
          · simp at hq; subst hq
            have g9 : act.tmps[9]?.getD undef = .pointer (some ⟨B', 0, none⟩) := hI.has 4 9 rfl (hall ⟨4, .data⟩ (by simp) rfl)
            clear hI hall hnot hcl
            refine .inl ⟨wanted_none rfl, ?_⟩
            unfold Oper.wp
            go_simp
            all_goals exact ⟨_, rfl, rfl, ⟨_, rfl⟩⟩
          · simp at hq; subst hq
            have g10 : act.tmps[10]?.getD undef = .pointer (some ⟨B', 0, none⟩) := hI.has 5 10 rfl (hall ⟨5, .data⟩ (by simp) rfl)
            clear hI hall hnot hcl
            refine .inl ⟨wanted_none rfl, ?_⟩
            unfold Oper.wp
            go_simp
            all_goals exact ⟨_, rfl, rfl, ⟨_, rfl⟩⟩
          · simp at hq; subst hq
            have g11 : act.tmps[11]?.getD undef = .pointer (some ⟨B', 0, none⟩) := hI.has 6 11 rfl (hall ⟨6, .data⟩ (by simp) rfl)
            clear hI hall hnot hcl
            refine .inl ⟨wanted_none rfl, ?_⟩
            unfold Oper.wp
            go_simp
            all_goals exact ⟨_, rfl, rfl, ⟨_, rfl⟩⟩
          · simp at hq; subst hq
            have g8 : act.tmps[8]?.getD undef = .float .f32 d := hI.has 3 8 rfl (hall ⟨3, .data⟩ (by simp) rfl)
            have g12 : act.tmps[12]?.getD undef = .float .f32 d' := hI.has 7 12 rfl (hall ⟨7, .data⟩ (by simp) rfl)
            clear hI hall hnot hcl
            refine .inl ⟨wanted_none rfl, ?_⟩
            unfold Oper.wp
            go_simp
            refine (s_l01Same _ _ _ A0.out B0.out).mono ?_
            rintro e w4 ⟨rfl, rfl⟩
            rw [P0.out]
            exact ⟨_, rfl, rfl, ⟨_, rfl⟩⟩
          · simp at hq; subst hq
            have g13 : act.tmps[13]?.getD undef = .bool true := hI.has 8 13 rfl (hall ⟨8, .data⟩ (by simp) rfl)
            clear hI hall hnot hcl
            refine .inl ⟨wanted_none rfl, ?_⟩
            unfold Oper.wp
            go_simp
            all_goals exact ⟨_, rfl, rfl, ⟨_, rfl⟩⟩
          · simp at hq; subst hq
            have gg : act.tmps[14]?.getD undef = .bool true := hI.has 9 14 rfl (hall ⟨9, .guard⟩ (by simp) rfl)
            have g0 : act.tmps[0]?.getD undef = .pointer (some ⟨B, 0, none⟩) := hI.kept 0 (by kernel_rfl)
            clear hI hall hnot hcl
            refine .inl ⟨(wanted_of rfl rfl gg).trans rfl, ?_⟩
            clear gg
            unfold Oper.wp
            go_simp
            all_goals exact ⟨_, rfl, rfl, ⟨_, rfl⟩⟩
          · simp at hq; subst hq
            have gg : act.tmps[14]?.getD undef = .bool true := hI.has 9 14 rfl (hall ⟨9, .guard⟩ (by simp) rfl)
            have g15 : act.tmps[15]?.getD undef = .pointer (some ⟨B, 0, none⟩) := hI.has 10 15 rfl (hall ⟨10, .data⟩ (by simp) rfl)
            clear hI hall hnot hcl
            refine .inl ⟨(wanted_of rfl rfl gg).trans rfl, ?_⟩
            clear gg
            unfold Oper.wp
            go_simp
            all_goals exact ⟨_, rfl, rfl, ⟨_, rfl⟩⟩
          · simp at hq; subst hq
            have gg : act.tmps[14]?.getD undef = .bool true := hI.has 9 14 rfl (hall ⟨9, .guard⟩ (by simp) rfl)
            have g16 : act.tmps[16]?.getD undef = .pointer (some ⟨B, 0, none⟩) := hI.has 11 16 rfl (hall ⟨11, .data⟩ (by simp) rfl)
            clear hI hall hnot hcl
            refine .inl ⟨(wanted_of rfl rfl gg).trans rfl, ?_⟩
            clear gg
            unfold Oper.wp
            go_simp
            all_goals exact ⟨_, rfl, rfl, ⟨_, rfl⟩⟩
          · simp at hq; subst hq
            have gg : act.tmps[14]?.getD undef = .bool true := hI.has 9 14 rfl (hall ⟨9, .guard⟩ (by simp) rfl)
            have g17 : act.tmps[17]?.getD undef = .pointer (some ⟨B, 1, none⟩) := hI.has 12 17 rfl (hall ⟨12, .data⟩ (by simp) rfl)
            clear hI hall hnot hcl
            refine .inl ⟨(wanted_of rfl rfl gg).trans rfl, ?_⟩
            clear gg
            unfold Oper.wp
            go_simp
            all_goals exact ⟨_, rfl, rfl, ⟨_, rfl⟩⟩
          · simp at hq; subst hq
            have gg : act.tmps[14]?.getD undef = .bool true := hI.has 9 14 rfl (hall ⟨9, .guard⟩ (by simp) rfl)
            have g1 : act.tmps[1]?.getD undef = .pointer (some ⟨B', 0, none⟩) := hI.kept 1 (by kernel_rfl)
            clear hI hall hnot hcl
            refine .inl ⟨(wanted_of rfl rfl gg).trans rfl, ?_⟩
            clear gg
            unfold Oper.wp
            go_simp
            all_goals exact ⟨_, rfl, rfl, ⟨_, rfl⟩⟩
          · simp at hq; subst hq
            have gg : act.tmps[14]?.getD undef = .bool true := hI.has 9 14 rfl (hall ⟨9, .guard⟩ (by simp) rfl)
            have g19 : act.tmps[19]?.getD undef = .pointer (some ⟨B', 0, none⟩) := hI.has 14 19 rfl (hall ⟨14, .data⟩ (by simp) rfl)
            clear hI hall hnot hcl
            refine .inl ⟨(wanted_of rfl rfl gg).trans rfl, ?_⟩
            clear gg
            unfold Oper.wp
            go_simp
            all_goals exact ⟨_, rfl, rfl, ⟨_, rfl⟩⟩
          · simp at hq; subst hq
            have gg : act.tmps[14]?.getD undef = .bool true := hI.has 9 14 rfl (hall ⟨9, .guard⟩ (by simp) rfl)
            have g20 : act.tmps[20]?.getD undef = .pointer (some ⟨B', 0, none⟩) := hI.has 15 20 rfl (hall ⟨15, .data⟩ (by simp) rfl)
            clear hI hall hnot hcl
            refine .inl ⟨(wanted_of rfl rfl gg).trans rfl, ?_⟩
            clear gg
            unfold Oper.wp
            go_simp
            all_goals exact ⟨_, rfl, rfl, ⟨_, rfl⟩⟩
          · simp at hq; subst hq
            have gg : act.tmps[14]?.getD undef = .bool true := hI.has 9 14 rfl (hall ⟨9, .guard⟩ (by simp) rfl)
            have g21 : act.tmps[21]?.getD undef = .pointer (some ⟨B', 1, none⟩) := hI.has 16 21 rfl (hall ⟨16, .data⟩ (by simp) rfl)
            clear hI hall hnot hcl
            refine .inl ⟨(wanted_of rfl rfl gg).trans rfl, ?_⟩
            clear gg
            unfold Oper.wp
            go_simp
            all_goals exact ⟨_, rfl, rfl, ⟨_, rfl⟩⟩
          · simp at hq; subst hq
            have gg : act.tmps[14]?.getD undef = .bool true := hI.has 9 14 rfl (hall ⟨9, .guard⟩ (by simp) rfl)
            have g18 : act.tmps[18]?.getD undef = .float .f32 h := hI.has 13 18 rfl (hall ⟨13, .data⟩ (by simp) rfl)
            have g22 : act.tmps[22]?.getD undef = .float .f32 h' := hI.has 17 22 rfl (hall ⟨17, .data⟩ (by simp) rfl)
            clear hI hall hnot hcl
            refine .inl ⟨(wanted_of rfl rfl gg).trans rfl, ?_⟩
            clear gg
            unfold Oper.wp
            go_simp
            refine (s_l01Same _ _ _ A1.out B1.out).mono ?_
            rintro e w4 ⟨rfl, rfl⟩
            rw [P1.out]
            exact ⟨_, rfl, rfl, ⟨_, rfl⟩⟩
          · simp at hq; subst hq
            have g14 : act.tmps[14]?.getD undef = .bool true := hI.has 9 14 rfl (hall ⟨9, .data⟩ (by simp) rfl)
            have g23 : act.tmps[23]?.getD undef = .bool true := hI.has 18 23 rfl (hall ⟨18, .data⟩ (by simp) rfl)
            clear hI hall hnot hcl
            refine .inl ⟨wanted_none rfl, ?_⟩
            unfold Oper.wp
            go_simp
            all_goals exact ⟨_, rfl, rfl, ⟨_, rfl⟩⟩
          · simp at hq; subst hq
            have g24 : act.tmps[24]?.getD undef = .bool true := hI.has 19 24 rfl (hall ⟨19, .data⟩ (by simp) rfl)
            clear hI hall hnot hcl
            refine .inl ⟨wanted_none rfl, ?_⟩
            unfold Oper.wp
            go_simp
            all_goals exact ⟨_, rfl, rfl, ⟨_, rfl⟩⟩
          · simp at hq; subst hq
            have gg : act.tmps[25]?.getD undef = .bool true := hI.has 20 25 rfl (hall ⟨20, .guard⟩ (by simp) rfl)
            have g0 : act.tmps[0]?.getD undef = .pointer (some ⟨B, 0, none⟩) := hI.kept 0 (by kernel_rfl)
            clear hI hall hnot hcl
            refine .inl ⟨(wanted_of rfl rfl gg).trans rfl, ?_⟩
            clear gg
            unfold Oper.wp
            go_simp
            all_goals exact ⟨_, rfl, rfl, ⟨_, rfl⟩⟩
          · simp at hq; subst hq
            have gg : act.tmps[25]?.getD undef = .bool true := hI.has 20 25 rfl (hall ⟨20, .guard⟩ (by simp) rfl)
            have g26 : act.tmps[26]?.getD undef = .pointer (some ⟨B, 0, none⟩) := hI.has 21 26 rfl (hall ⟨21, .data⟩ (by simp) rfl)
            clear hI hall hnot hcl
            refine .inl ⟨(wanted_of rfl rfl gg).trans rfl, ?_⟩
            clear gg
            unfold Oper.wp
            go_simp
            all_goals exact ⟨_, rfl, rfl, ⟨_, rfl⟩⟩
          · simp at hq; subst hq
            have gg : act.tmps[25]?.getD undef = .bool true := hI.has 20 25 rfl (hall ⟨20, .guard⟩ (by simp) rfl)
            have g27 : act.tmps[27]?.getD undef = .pointer (some ⟨B, 0, none⟩) := hI.has 22 27 rfl (hall ⟨22, .data⟩ (by simp) rfl)
            clear hI hall hnot hcl
            refine .inl ⟨(wanted_of rfl rfl gg).trans rfl, ?_⟩
            clear gg
            unfold Oper.wp
            go_simp
            all_goals exact ⟨_, rfl, rfl, ⟨_, rfl⟩⟩
          · simp at hq; subst hq
            have gg : act.tmps[25]?.getD undef = .bool true := hI.has 20 25 rfl (hall ⟨20, .guard⟩ (by simp) rfl)
            have g28 : act.tmps[28]?.getD undef = .pointer (some ⟨B, 2, none⟩) := hI.has 23 28 rfl (hall ⟨23, .data⟩ (by simp) rfl)
            clear hI hall hnot hcl
            refine .inl ⟨(wanted_of rfl rfl gg).trans rfl, ?_⟩
            clear gg
            unfold Oper.wp
            go_simp
            all_goals exact ⟨_, rfl, rfl, ⟨_, rfl⟩⟩
          · simp at hq; subst hq
            have gg : act.tmps[25]?.getD undef = .bool true := hI.has 20 25 rfl (hall ⟨20, .guard⟩ (by simp) rfl)
            have g1 : act.tmps[1]?.getD undef = .pointer (some ⟨B', 0, none⟩) := hI.kept 1 (by kernel_rfl)
            clear hI hall hnot hcl
            refine .inl ⟨(wanted_of rfl rfl gg).trans rfl, ?_⟩
            clear gg
            unfold Oper.wp
            go_simp
            all_goals exact ⟨_, rfl, rfl, ⟨_, rfl⟩⟩
          · simp at hq; subst hq
            have gg : act.tmps[25]?.getD undef = .bool true := hI.has 20 25 rfl (hall ⟨20, .guard⟩ (by simp) rfl)
            have g30 : act.tmps[30]?.getD undef = .pointer (some ⟨B', 0, none⟩) := hI.has 25 30 rfl (hall ⟨25, .data⟩ (by simp) rfl)
            clear hI hall hnot hcl
            refine .inl ⟨(wanted_of rfl rfl gg).trans rfl, ?_⟩
            clear gg
            unfold Oper.wp
            go_simp
            all_goals exact ⟨_, rfl, rfl, ⟨_, rfl⟩⟩
          · simp at hq; subst hq
            have gg : act.tmps[25]?.getD undef = .bool true := hI.has 20 25 rfl (hall ⟨20, .guard⟩ (by simp) rfl)
            have g31 : act.tmps[31]?.getD undef = .pointer (some ⟨B', 0, none⟩) := hI.has 26 31 rfl (hall ⟨26, .data⟩ (by simp) rfl)
            clear hI hall hnot hcl
            refine .inl ⟨(wanted_of rfl rfl gg).trans rfl, ?_⟩
            clear gg
            unfold Oper.wp
            go_simp
            all_goals exact ⟨_, rfl, rfl, ⟨_, rfl⟩⟩
          · simp at hq; subst hq
            have gg : act.tmps[25]?.getD undef = .bool true := hI.has 20 25 rfl (hall ⟨20, .guard⟩ (by simp) rfl)
            have g32 : act.tmps[32]?.getD undef = .pointer (some ⟨B', 2, none⟩) := hI.has 27 32 rfl (hall ⟨27, .data⟩ (by simp) rfl)
            clear hI hall hnot hcl
            refine .inl ⟨(wanted_of rfl rfl gg).trans rfl, ?_⟩
            clear gg
            unfold Oper.wp
            go_simp
            all_goals exact ⟨_, rfl, rfl, ⟨_, rfl⟩⟩
          · simp at hq; subst hq
            have gg : act.tmps[25]?.getD undef = .bool true := hI.has 20 25 rfl (hall ⟨20, .guard⟩ (by simp) rfl)
            have g29 : act.tmps[29]?.getD undef = .float .f32 s := hI.has 24 29 rfl (hall ⟨24, .data⟩ (by simp) rfl)
            have g33 : act.tmps[33]?.getD undef = .float .f32 s' := hI.has 28 33 rfl (hall ⟨28, .data⟩ (by simp) rfl)
            clear hI hall hnot hcl
            refine .inl ⟨(wanted_of rfl rfl gg).trans rfl, ?_⟩
            clear gg
            unfold Oper.wp
            go_simp
            refine (s_l01Same _ _ _ A2.out B2.out).mono ?_
            rintro e w4 ⟨rfl, rfl⟩
            rw [P2.out]
            exact ⟨_, rfl, rfl, ⟨_, rfl⟩⟩
          · simp at hq; subst hq
            have g25 : act.tmps[25]?.getD undef = .bool true := hI.has 20 25 rfl (hall ⟨20, .data⟩ (by simp) rfl)
            have g34 : act.tmps[34]?.getD undef = .bool true := hI.has 29 34 rfl (hall ⟨29, .data⟩ (by simp) rfl)
            clear hI hall hnot hcl
            refine .inl ⟨wanted_none rfl, ?_⟩
            unfold Oper.wp
            go_simp
            all_goals exact ⟨_, rfl, rfl, ⟨_, rfl⟩⟩
          · simp at hq; subst hq
            have g35 : act.tmps[35]?.getD undef = .bool true := hI.has 30 35 rfl (hall ⟨30, .data⟩ (by simp) rfl)
            clear hI hall hnot hcl
            refine .inl ⟨wanted_none rfl, ?_⟩
            unfold Oper.wp
            go_simp
            all_goals exact ⟨_, rfl, rfl, ⟨_, rfl⟩⟩
          · simp at hq; subst hq
            have gg : act.tmps[36]?.getD undef = .bool true := hI.has 31 36 rfl (hall ⟨31, .guard⟩ (by simp) rfl)
            have g0 : act.tmps[0]?.getD undef = .pointer (some ⟨B, 0, none⟩) := hI.kept 0 (by kernel_rfl)
            clear hI hall hnot hcl
            refine .inl ⟨(wanted_of rfl rfl gg).trans rfl, ?_⟩
            clear gg
            unfold Oper.wp
            go_simp
            all_goals exact ⟨_, rfl, rfl, ⟨_, rfl⟩⟩
          · simp at hq; subst hq
            have gg : act.tmps[36]?.getD undef = .bool true := hI.has 31 36 rfl (hall ⟨31, .guard⟩ (by simp) rfl)
            have g37 : act.tmps[37]?.getD undef = .pointer (some ⟨B, 0, none⟩) := hI.has 32 37 rfl (hall ⟨32, .data⟩ (by simp) rfl)
            clear hI hall hnot hcl
            refine .inl ⟨(wanted_of rfl rfl gg).trans rfl, ?_⟩
            clear gg
            unfold Oper.wp
            go_simp
            all_goals exact ⟨_, rfl, rfl, ⟨_, rfl⟩⟩
          · simp at hq; subst hq
            have gg : act.tmps[36]?.getD undef = .bool true := hI.has 31 36 rfl (hall ⟨31, .guard⟩ (by simp) rfl)
            have g38 : act.tmps[38]?.getD undef = .pointer (some ⟨B, 0, none⟩) := hI.has 33 38 rfl (hall ⟨33, .data⟩ (by simp) rfl)
            clear hI hall hnot hcl
            refine .inl ⟨(wanted_of rfl rfl gg).trans rfl, ?_⟩
            clear gg
            unfold Oper.wp
            go_simp
            all_goals exact ⟨_, rfl, rfl, ⟨_, rfl⟩⟩
          · simp at hq; subst hq
            have gg : act.tmps[36]?.getD undef = .bool true := hI.has 31 36 rfl (hall ⟨31, .guard⟩ (by simp) rfl)
            have g39 : act.tmps[39]?.getD undef = .pointer (some ⟨B, 3, none⟩) := hI.has 34 39 rfl (hall ⟨34, .data⟩ (by simp) rfl)
            clear hI hall hnot hcl
            refine .inl ⟨(wanted_of rfl rfl gg).trans rfl, ?_⟩
            clear gg
            unfold Oper.wp
            go_simp
            all_goals exact ⟨_, rfl, rfl, ⟨_, rfl⟩⟩
          · simp at hq; subst hq
            have gg : act.tmps[36]?.getD undef = .bool true := hI.has 31 36 rfl (hall ⟨31, .guard⟩ (by simp) rfl)
            have g1 : act.tmps[1]?.getD undef = .pointer (some ⟨B', 0, none⟩) := hI.kept 1 (by kernel_rfl)
            clear hI hall hnot hcl
            refine .inl ⟨(wanted_of rfl rfl gg).trans rfl, ?_⟩
            clear gg
            unfold Oper.wp
            go_simp
            all_goals exact ⟨_, rfl, rfl, ⟨_, rfl⟩⟩
          · simp at hq; subst hq
            have gg : act.tmps[36]?.getD undef = .bool true := hI.has 31 36 rfl (hall ⟨31, .guard⟩ (by simp) rfl)
            have g41 : act.tmps[41]?.getD undef = .pointer (some ⟨B', 0, none⟩) := hI.has 36 41 rfl (hall ⟨36, .data⟩ (by simp) rfl)
            clear hI hall hnot hcl
            refine .inl ⟨(wanted_of rfl rfl gg).trans rfl, ?_⟩
            clear gg
            unfold Oper.wp
            go_simp
            all_goals exact ⟨_, rfl, rfl, ⟨_, rfl⟩⟩
          · simp at hq; subst hq
            have gg : act.tmps[36]?.getD undef = .bool true := hI.has 31 36 rfl (hall ⟨31, .guard⟩ (by simp) rfl)
            have g42 : act.tmps[42]?.getD undef = .pointer (some ⟨B', 0, none⟩) := hI.has 37 42 rfl (hall ⟨37, .data⟩ (by simp) rfl)
            clear hI hall hnot hcl
            refine .inl ⟨(wanted_of rfl rfl gg).trans rfl, ?_⟩
            clear gg
            unfold Oper.wp
            go_simp
            all_goals exact ⟨_, rfl, rfl, ⟨_, rfl⟩⟩
          · simp at hq; subst hq
            have gg : act.tmps[36]?.getD undef = .bool true := hI.has 31 36 rfl (hall ⟨31, .guard⟩ (by simp) rfl)
            have g43 : act.tmps[43]?.getD undef = .pointer (some ⟨B', 3, none⟩) := hI.has 38 43 rfl (hall ⟨38, .data⟩ (by simp) rfl)
            clear hI hall hnot hcl
            refine .inl ⟨(wanted_of rfl rfl gg).trans rfl, ?_⟩
            clear gg
            unfold Oper.wp
            go_simp
            all_goals exact ⟨_, rfl, rfl, ⟨_, rfl⟩⟩
          · simp at hq; subst hq
            have gg : act.tmps[36]?.getD undef = .bool true := hI.has 31 36 rfl (hall ⟨31, .guard⟩ (by simp) rfl)
            have g40 : act.tmps[40]?.getD undef = .float .f32 k := hI.has 35 40 rfl (hall ⟨35, .data⟩ (by simp) rfl)
            have g44 : act.tmps[44]?.getD undef = .float .f32 k' := hI.has 39 44 rfl (hall ⟨39, .data⟩ (by simp) rfl)
            clear hI hall hnot hcl
            refine .inl ⟨(wanted_of rfl rfl gg).trans rfl, ?_⟩
            clear gg
            unfold Oper.wp
            go_simp
            refine (s_l01Same _ _ _ A3.out B3.out).mono ?_
            rintro e w4 ⟨rfl, rfl⟩
            exact ⟨_, rfl, rfl, ⟨_, rfl⟩⟩
          · simp at hq; subst hq
            have g36 : act.tmps[36]?.getD undef = .bool true := hI.has 31 36 rfl (hall ⟨31, .data⟩ (by simp) rfl)
            have g45 : act.tmps[45]?.getD undef = .bool (decide (canon .f32 k = canon .f32 k')) := hI.has 40 45 rfl (hall ⟨40, .data⟩ (by simp) rfl)
            clear hI hall hnot hcl
            refine .inl ⟨wanted_none rfl, ?_⟩
            unfold Oper.wp
            go_simp
            all_goals exact ⟨_, rfl, rfl, ⟨_, rfl⟩⟩
          · simp at hq; subst hq
            have g46 : act.tmps[46]?.getD undef = .bool (decide (canon .f32 k = canon .f32 k')) := hI.has 41 46 rfl (hall ⟨41, .data⟩ (by simp) rfl)
            clear hI hall hnot hcl
            refine .inl ⟨wanted_none rfl, ?_⟩
            unfold Oper.wp
            go_simp
            all_goals exact ⟨_, rfl, rfl, ⟨_, rfl⟩⟩
          · simp at hq
        case hend =>
          intro listed act w3 hI hall
          obtain ⟨nn, rfl⟩ := hI.cls
          have g4 : act.tmps[4]?.getD undef = .bool (decide (canon .f32 k = canon .f32 k')) := hI.has 42 4 rfl (hall 42 (by decide))
          have hd := hI.defers
          clear hI hall
          go_wp2
          refine bodyPost_ret (v := .bool (decide (canon .f32 k = canon .f32 k'))) (by simp [results, Try.results137, g4, go_sem]) (by first | rfl | exact hd) ?_
          first | refine ⟨?_, nn, rfl⟩ | refine ⟨nn, ?_, rfl⟩
          unfold airS samN1
          rw [show decide _ = _ from P0.out, show decide _ = _ from P1.out, show decide _ = _ from P2.out]
          rfl
set_option maxHeartbeats 4000000 in
theorem i_SameAir (d h s k d' h' s' k' : Nat) (w : World) (hw : ∀ x ∈ [d, h, s, k, d', h', s', k'], canon .f32 x < 4294967296) :
    Calls Try.prog 142 #[.agg #[.float .f32 d, .float .f32 h, .float .f32 s, .float .f32 k], .agg #[.float .f32 d', .float .f32 h', .float .f32 s', .float .f32 k']] w fun e w' => e = .returned (.bool (airS d h s k d' h' s' k')) ∧ Below w.heap.size w w' := by
  have HB : ∀ o1 o2, Hid (Below w.heap.size w ((w.alloc o1).alloc o2)) := fun _ _ => Lib.hid (((Below.refl _ _).alloc (Nat.le_refl _) _).alloc (by simp) _)
  have A0 := Lib.hid (hw d (by simp))
  have A1 := Lib.hid (hw h (by simp))
  have A2 := Lib.hid (hw s (by simp))
  have A3 := Lib.hid (hw k (by simp))
  have B0 := Lib.hid (hw d' (by simp))
  have B1 := Lib.hid (hw h' (by simp))
  have B2 := Lib.hid (hw s' (by simp))
  have B3 := Lib.hid (hw k' (by simp))
  clear hw
  have K0 : ∀ o2 t, Hid (BlkL ((w.alloc (.cells #[.float .f32 d, .float .f32 h, .float .f32 s, .float .f32 k] t)).alloc o2) w.heap.size [.float .f32 d, .float .f32 h, .float .f32 s, .float .f32 k]) := fun _ _ => Lib.hid ((blkL_at w #[.float .f32 d, .float .f32 h, .float .f32 s, .float .f32 k] _ rfl).alloc _)
  have K1 : ∀ o1 t, Hid (BlkL ((w.alloc o1).alloc (.cells #[.float .f32 d', .float .f32 h', .float .f32 s', .float .f32 k'] t)) (w.heap.size + 1) [.float .f32 d', .float .f32 h', .float .f32 s', .float .f32 k']) := fun _ _ => Lib.hid (blkL_at (w.alloc _) #[.float .f32 d', .float .f32 h', .float .f32 s', .float .f32 k'] _ (by simp))
  have k0 := fun o2 t => ((K0 o2 t).out.2 0 _ rfl).1
  have k1 := fun o2 t => ((K0 o2 t).out.2 1 _ rfl).1
  have k2 := fun o2 t => ((K0 o2 t).out.2 2 _ rfl).1
  have k3 := fun o2 t => ((K0 o2 t).out.2 3 _ rfl).1
  have l0 := fun o2 t => ((K1 o2 t).out.2 0 _ rfl).1
  have l1 := fun o2 t => ((K1 o2 t).out.2 1 _ rfl).1
  have l2 := fun o2 t => ((K1 o2 t).out.2 2 _ rfl).1
  have l3 := fun o2 t => ((K1 o2 t).out.2 3 _ rfl).1
  go_enter Try.func142, Try.ntmps142
  go_wp2_with fail
  refine (i_SameNumber _ _ _ A0.out B0.out).mono ?_
  rintro e w' ⟨n0, rfl, rfl⟩
  cases P0 : decide (canon .f32 d = canon .f32 d')
  · go_wp2
    go_ret
    exact ⟨by unfold airS samN1; rw [P0]; rfl, by repeat (first | exact (HB _ _).out | refine below_draws ?_ _)⟩
  · skip
    go_wp2_with fail
    refine (i_SameNumber _ _ _ A1.out B1.out).mono ?_
    rintro e w' ⟨n1, rfl, rfl⟩
    cases P1 : decide (canon .f32 h = canon .f32 h')
    · go_wp2
      go_ret
      exact ⟨by unfold airS samN1; rw [P0, P1]; rfl, by repeat (first | exact (HB _ _).out | refine below_draws ?_ _)⟩
    · skip
      go_wp2_with fail
      refine (i_SameNumber _ _ _ A2.out B2.out).mono ?_
      rintro e w' ⟨n2, rfl, rfl⟩
      cases P2 : decide (canon .f32 s = canon .f32 s')
      · go_wp2
        go_ret
        exact ⟨by unfold airS samN1; rw [P0, P1, P2]; rfl, by repeat (first | exact (HB _ _).out | refine below_draws ?_ _)⟩
      · skip
        go_wp2_with fail
        refine (i_SameNumber _ _ _ A3.out B3.out).mono ?_
        rintro e w' ⟨n3, rfl, rfl⟩
        go_wp2
        go_ret
        exact ⟨by unfold airS samN1; rw [P0, P1, P2]; rfl, by repeat (first | exact (HB _ _).out | refine below_draws ?_ _)⟩
set_option maxHeartbeats 8000000 in
theorem s_l04Speed (d h s k z B : Nat) (w : World) (hk : BlkL w B [.float .f32 d, .float .f32 h, .float .f32 s, .float .f32 k]) :
    Calls Try.prog 96 #[.pointer (some ⟨B, 0, none⟩), .float .f32 z] w fun e w' => ∃ r n, e = .returned (.float .f32 r) ∧ canon .f32 r = spdV h s k z ∧ w' = w.drewN n := by
  obtain ⟨k0, k1, k2, k3⟩ := hk.four
  clear hk
  go_enter Try.func96, Try.ntmps96
  go_wp2_with fail
  have hst : ∀ m, ∃ nn, { (w.drewN m) with drawn := (w.drewN m).drawn + 1 } = w.drewN nn := fun m => ⟨m + 1, rfl⟩
  have hdd : ∀ nn j, ∃ mm, (w.drewN nn).drewN j = w.drewN mm := fun nn j => ⟨nn + j, World.drewN_drewN ..⟩
  refine wp_region_inv3 (fun q0 v => match q0 with
    | 0 => v = .float .f32 z
    | 1 => v = .pointer (some ⟨B, 0, none⟩)
    | 2 => v = .pointer (some ⟨B, 0, none⟩)
    | 3 => v = .pointer (some ⟨B, 1, none⟩)
    | 4 => v = .float .f32 h
    | 5 => ∃ r, v = .float .f32 r ∧ canon .f32 r = fop .sub .f32 (canon .f32 z) (canon .f32 h)
    | 6 => v = .float .f32 z
    | 7 => v = .pointer (some ⟨B, 0, none⟩)
    | 8 => v = .pointer (some ⟨B, 0, none⟩)
    | 9 => v = .pointer (some ⟨B, 1, none⟩)
    | 10 => v = .float .f32 h
    | 11 => ∃ r, v = .float .f32 r ∧ canon .f32 r = fop .add .f32 (canon .f32 z) (canon .f32 h)
    | 12 => ∃ r, v = .float .f32 r ∧ canon .f32 r = fop .quo .f32 (fop .sub .f32 (canon .f32 z) (canon .f32 h)) (fop .add .f32 (canon .f32 z) (canon .f32 h))
    | 13 => ∃ r, v = .float .f32 r ∧ canon .f32 r = fop .quo .f32 (fop .sub .f32 (canon .f32 z) (canon .f32 h)) (fop .add .f32 (canon .f32 z) (canon .f32 h))
    | _ => False) (fun _ ww => ∃ nn, ww = w.drewN nn) (by kernel_rfl) (by kernel_rfl) ⟨1, rfl⟩ ?hop ?hend
  case hop =>
    intro q o hq listed act w3 hI hnot hcl hall
    obtain ⟨nn, rfl⟩ := hI.cls
    rcases q with _ | _ | _ | _ | _ | _ | _ | _ | _ | _ | _ | _ | _ | _ | q
    · simp at hq; subst hq
      have g1 : act.tmps[1]?.getD undef = .float .f32 z := hI.kept 1 (by kernel_rfl)
      clear hI hall hnot hcl
      refine .inl ⟨wanted_none rfl, ?_⟩
      unfold Oper.wp
      go_simp
      all_goals exact ⟨_, rfl, rfl, ⟨_, rfl⟩⟩
    · simp at hq; subst hq
      have g0 : act.tmps[0]?.getD undef = .pointer (some ⟨B, 0, none⟩) := hI.kept 0 (by kernel_rfl)
      clear hI hall hnot hcl
      refine .inl ⟨wanted_none rfl, ?_⟩
      unfold Oper.wp
      go_simp
      all_goals exact ⟨_, rfl, rfl, ⟨_, rfl⟩⟩
    · simp at hq; subst hq
      have g7 : act.tmps[7]?.getD undef = .pointer (some ⟨B, 0, none⟩) := hI.has 1 7 rfl (hall ⟨1, .data⟩ (by simp) rfl)
      clear hI hall hnot hcl
      refine .inl ⟨wanted_none rfl, ?_⟩
      unfold Oper.wp
      go_simp
      all_goals exact ⟨_, rfl, rfl, ⟨_, rfl⟩⟩
    · simp at hq; subst hq
      have g8 : act.tmps[8]?.getD undef = .pointer (some ⟨B, 0, none⟩) := hI.has 2 8 rfl (hall ⟨2, .data⟩ (by simp) rfl)
      clear hI hall hnot hcl
      refine .inl ⟨wanted_none rfl, ?_⟩
      unfold Oper.wp
      go_simp
      all_goals exact ⟨_, rfl, rfl, ⟨_, rfl⟩⟩
    · simp at hq; subst hq
      have g9 : act.tmps[9]?.getD undef = .pointer (some ⟨B, 1, none⟩) := hI.has 3 9 rfl (hall ⟨3, .data⟩ (by simp) rfl)
      clear hI hall hnot hcl
      refine .inl ⟨wanted_none rfl, ?_⟩
      unfold Oper.wp
      go_simp
      all_goals exact ⟨_, rfl, rfl, ⟨_, rfl⟩⟩
    · simp at hq; subst hq
      have g6 : act.tmps[6]?.getD undef = .float .f32 z := hI.has 0 6 rfl (hall ⟨0, .data⟩ (by simp) rfl)
      have g10 : act.tmps[10]?.getD undef = .float .f32 h := hI.has 4 10 rfl (hall ⟨4, .data⟩ (by simp) rfl)
      clear hI hall hnot hcl
      refine .inl ⟨wanted_none rfl, ?_⟩
      unfold Oper.wp
      go_simp
      exact ⟨_, rfl, ⟨_, rfl, canonF rfl rfl⟩, by first | exact ⟨_, rfl⟩ | exact hdd _ _⟩
    · simp at hq; subst hq
      have g1 : act.tmps[1]?.getD undef = .float .f32 z := hI.kept 1 (by kernel_rfl)
      clear hI hall hnot hcl
      refine .inl ⟨wanted_none rfl, ?_⟩
      unfold Oper.wp
      go_simp
      all_goals exact ⟨_, rfl, rfl, ⟨_, rfl⟩⟩
    · simp at hq; subst hq
      have g0 : act.tmps[0]?.getD undef = .pointer (some ⟨B, 0, none⟩) := hI.kept 0 (by kernel_rfl)
      clear hI hall hnot hcl
      refine .inl ⟨wanted_none rfl, ?_⟩
      unfold Oper.wp
      go_simp
      all_goals exact ⟨_, rfl, rfl, ⟨_, rfl⟩⟩
    · simp at hq; subst hq
      have g13 : act.tmps[13]?.getD undef = .pointer (some ⟨B, 0, none⟩) := hI.has 7 13 rfl (hall ⟨7, .data⟩ (by simp) rfl)
      clear hI hall hnot hcl
      refine .inl ⟨wanted_none rfl, ?_⟩
      unfold Oper.wp
      go_simp
      all_goals exact ⟨_, rfl, rfl, ⟨_, rfl⟩⟩
    · simp at hq; subst hq
      have g14 : act.tmps[14]?.getD undef = .pointer (some ⟨B, 0, none⟩) := hI.has 8 14 rfl (hall ⟨8, .data⟩ (by simp) rfl)
      clear hI hall hnot hcl
      refine .inl ⟨wanted_none rfl, ?_⟩
      unfold Oper.wp
      go_simp
      all_goals exact ⟨_, rfl, rfl, ⟨_, rfl⟩⟩
    · simp at hq; subst hq
      have g15 : act.tmps[15]?.getD undef = .pointer (some ⟨B, 1, none⟩) := hI.has 9 15 rfl (hall ⟨9, .data⟩ (by simp) rfl)
      clear hI hall hnot hcl
      refine .inl ⟨wanted_none rfl, ?_⟩
      unfold Oper.wp
      go_simp
      all_goals exact ⟨_, rfl, rfl, ⟨_, rfl⟩⟩
    · simp at hq; subst hq
      have g12 : act.tmps[12]?.getD undef = .float .f32 z := hI.has 6 12 rfl (hall ⟨6, .data⟩ (by simp) rfl)
      have g16 : act.tmps[16]?.getD undef = .float .f32 h := hI.has 10 16 rfl (hall ⟨10, .data⟩ (by simp) rfl)
      clear hI hall hnot hcl
      refine .inl ⟨wanted_none rfl, ?_⟩
      unfold Oper.wp
      go_simp
      exact ⟨_, rfl, ⟨_, rfl, canonF rfl rfl⟩, by first | exact ⟨_, rfl⟩ | exact hdd _ _⟩
    · simp at hq; subst hq
      obtain ⟨r5, g11, h5a⟩ := hI.has 5 11 rfl (hall ⟨5, .data⟩ (by simp) rfl)
      obtain ⟨r11, g17, h11a⟩ := hI.has 11 17 rfl (hall ⟨11, .data⟩ (by simp) rfl)
      clear hI hall hnot hcl
      refine .inl ⟨wanted_none rfl, ?_⟩
      unfold Oper.wp
      go_simp
      exact ⟨_, rfl, ⟨_, rfl, canonF h5a h11a⟩, by first | exact ⟨_, rfl⟩ | exact hdd _ _⟩
    · simp at hq; subst hq
      obtain ⟨r12, g18, h12a⟩ := hI.has 12 18 rfl (hall ⟨12, .data⟩ (by simp) rfl)
      clear hI hall hnot hcl
      refine .inl ⟨wanted_none rfl, ?_⟩
      unfold Oper.wp
      go_simp
      exact ⟨_, rfl, ⟨_, rfl, h12a⟩, ⟨_, rfl⟩⟩
    · simp at hq
  case hend =>
    intro listed act w3 hI hall
    obtain ⟨nn, rfl⟩ := hI.cls
    obtain ⟨r5, G5, h5⟩ := hI.has 13 5 rfl (hall 13 (by decide))
    have G0 : act.tmps[0]?.getD undef = .pointer (some ⟨B, 0, none⟩) := hI.kept 0 (by kernel_rfl)
    have hsz : act.tmps.size = 31 := hI.size.trans (by kernel_rfl)
    have hd0 := hI.defers
    clear hI hall
    go_wp2_with fail
    refine wp_region_inv3 (fun q0 v => match q0 with
      | 0 => v = .pointer (some ⟨B, 0, none⟩)
      | 1 => v = .pointer (some ⟨B, 0, none⟩)
      | 2 => v = .pointer (some ⟨B, 2, none⟩)
      | 3 => v = .float .f32 s
      | 4 => v = .pointer (some ⟨B, 0, none⟩)
      | 5 => v = .pointer (some ⟨B, 0, none⟩)
      | 6 => v = .pointer (some ⟨B, 3, none⟩)
      | 7 => v = .float .f32 k
      | 8 => ∃ r, v = .float .f32 r ∧ canon .f32 r = fop .quo .f32 (fop .sub .f32 (canon .f32 z) (canon .f32 h)) (fop .add .f32 (canon .f32 z) (canon .f32 h))
      | 9 => ∃ r, v = .float .f32 r ∧ canon .f32 r = fop .mul .f32 (canon .f32 k) (fop .quo .f32 (fop .sub .f32 (canon .f32 z) (canon .f32 h)) (fop .add .f32 (canon .f32 z) (canon .f32 h)))
      | 10 => ∃ r, v = .float .f32 r ∧ canon .f32 r = fop .add .f32 (canon .f32 1065353216) (fop .mul .f32 (canon .f32 k) (fop .quo .f32 (fop .sub .f32 (canon .f32 z) (canon .f32 h)) (fop .add .f32 (canon .f32 z) (canon .f32 h))))
      | 11 => ∃ r, v = .float .f32 r ∧ canon .f32 r = fop .mul .f32 (canon .f32 s) (fop .add .f32 (canon .f32 1065353216) (fop .mul .f32 (canon .f32 k) (fop .quo .f32 (fop .sub .f32 (canon .f32 z) (canon .f32 h)) (fop .add .f32 (canon .f32 z) (canon .f32 h)))))
      | 12 => ∃ r, v = .float .f32 r ∧ canon .f32 r = fop .mul .f32 (canon .f32 s) (fop .add .f32 (canon .f32 1065353216) (fop .mul .f32 (canon .f32 k) (fop .quo .f32 (fop .sub .f32 (canon .f32 z) (canon .f32 h)) (fop .add .f32 (canon .f32 z) (canon .f32 h)))))
      | _ => False) (fun _ ww => ∃ nn, ww = w.drewN nn) (by kernel_rfl) (by rw [hsz]; kernel_rfl) (hst _) ?hop ?hend
    case hop =>
      intro q o hq listed act w3 hI hnot hcl hall
      obtain ⟨nn, rfl⟩ := hI.cls
      rcases q with _ | _ | _ | _ | _ | _ | _ | _ | _ | _ | _ | _ | _ | q
      · simp at hq; subst hq
        have g0 : act.tmps[0]?.getD undef = .pointer (some ⟨B, 0, none⟩) := (hI.kept 0 (by kernel_rfl)).trans (by rw [Array.getD_eq_getD_getElem?]; exact G0)
        clear hI hall hnot hcl
        refine .inl ⟨wanted_none rfl, ?_⟩
        unfold Oper.wp
        go_simp
        all_goals exact ⟨_, rfl, rfl, ⟨_, rfl⟩⟩
      · simp at hq; subst hq
        have g19 : act.tmps[19]?.getD undef = .pointer (some ⟨B, 0, none⟩) := hI.has 0 19 rfl (hall ⟨0, .data⟩ (by simp) rfl)
        clear hI hall hnot hcl
        refine .inl ⟨wanted_none rfl, ?_⟩
        unfold Oper.wp
        go_simp
        all_goals exact ⟨_, rfl, rfl, ⟨_, rfl⟩⟩
      · simp at hq; subst hq
        have g20 : act.tmps[20]?.getD undef = .pointer (some ⟨B, 0, none⟩) := hI.has 1 20 rfl (hall ⟨1, .data⟩ (by simp) rfl)
        clear hI hall hnot hcl
        refine .inl ⟨wanted_none rfl, ?_⟩
        unfold Oper.wp
        go_simp
        all_goals exact ⟨_, rfl, rfl, ⟨_, rfl⟩⟩
      · simp at hq; subst hq
        have g21 : act.tmps[21]?.getD undef = .pointer (some ⟨B, 2, none⟩) := hI.has 2 21 rfl (hall ⟨2, .data⟩ (by simp) rfl)
        clear hI hall hnot hcl
        refine .inl ⟨wanted_none rfl, ?_⟩
        unfold Oper.wp
        go_simp
        all_goals exact ⟨_, rfl, rfl, ⟨_, rfl⟩⟩
      · simp at hq; subst hq
        have g0 : act.tmps[0]?.getD undef = .pointer (some ⟨B, 0, none⟩) := (hI.kept 0 (by kernel_rfl)).trans (by rw [Array.getD_eq_getD_getElem?]; exact G0)
        clear hI hall hnot hcl
        refine .inl ⟨wanted_none rfl, ?_⟩
        unfold Oper.wp
        go_simp
        all_goals exact ⟨_, rfl, rfl, ⟨_, rfl⟩⟩
      · simp at hq; subst hq
        have g23 : act.tmps[23]?.getD undef = .pointer (some ⟨B, 0, none⟩) := hI.has 4 23 rfl (hall ⟨4, .data⟩ (by simp) rfl)
        clear hI hall hnot hcl
        refine .inl ⟨wanted_none rfl, ?_⟩
        unfold Oper.wp
        go_simp
        all_goals exact ⟨_, rfl, rfl, ⟨_, rfl⟩⟩
      · simp at hq; subst hq
        have g24 : act.tmps[24]?.getD undef = .pointer (some ⟨B, 0, none⟩) := hI.has 5 24 rfl (hall ⟨5, .data⟩ (by simp) rfl)
        clear hI hall hnot hcl
        refine .inl ⟨wanted_none rfl, ?_⟩
        unfold Oper.wp
        go_simp
        all_goals exact ⟨_, rfl, rfl, ⟨_, rfl⟩⟩
      · simp at hq; subst hq
        have g25 : act.tmps[25]?.getD undef = .pointer (some ⟨B, 3, none⟩) := hI.has 6 25 rfl (hall ⟨6, .data⟩ (by simp) rfl)
        clear hI hall hnot hcl
        refine .inl ⟨wanted_none rfl, ?_⟩
        unfold Oper.wp
        go_simp
        all_goals exact ⟨_, rfl, rfl, ⟨_, rfl⟩⟩
      · simp at hq; subst hq
        have g5 : act.tmps[5]?.getD undef = .float .f32 r5 := (hI.kept 5 (by kernel_rfl)).trans (by rw [Array.getD_eq_getD_getElem?]; exact G5)
        clear hI hall hnot hcl
        refine .inl ⟨wanted_none rfl, ?_⟩
        unfold Oper.wp
        go_simp
        exact ⟨_, rfl, ⟨_, rfl, h5⟩, ⟨_, rfl⟩⟩
      · simp at hq; subst hq
        have g26 : act.tmps[26]?.getD undef = .float .f32 k := hI.has 7 26 rfl (hall ⟨7, .data⟩ (by simp) rfl)
        obtain ⟨r8, g27, h8a⟩ := hI.has 8 27 rfl (hall ⟨8, .data⟩ (by simp) rfl)
        clear hI hall hnot hcl
        refine .inl ⟨wanted_none rfl, ?_⟩
        unfold Oper.wp
        go_simp
        exact ⟨_, rfl, ⟨_, rfl, canonF rfl h8a⟩, by first | exact ⟨_, rfl⟩ | exact hdd _ _⟩
      · simp at hq; subst hq
        obtain ⟨r9, g28, h9a⟩ := hI.has 9 28 rfl (hall ⟨9, .data⟩ (by simp) rfl)
        clear hI hall hnot hcl
        refine .inl ⟨wanted_none rfl, ?_⟩
        unfold Oper.wp
        go_simp
        exact ⟨_, rfl, ⟨_, rfl, canonF rfl h9a⟩, by first | exact ⟨_, rfl⟩ | exact hdd _ _⟩
      · simp at hq; subst hq
        have g22 : act.tmps[22]?.getD undef = .float .f32 s := hI.has 3 22 rfl (hall ⟨3, .data⟩ (by simp) rfl)
        obtain ⟨r10, g29, h10a⟩ := hI.has 10 29 rfl (hall ⟨10, .data⟩ (by simp) rfl)
        clear hI hall hnot hcl
        refine .inl ⟨wanted_none rfl, ?_⟩
        unfold Oper.wp
        go_simp
        exact ⟨_, rfl, ⟨_, rfl, canonF rfl h10a⟩, by first | exact ⟨_, rfl⟩ | exact hdd _ _⟩
      · simp at hq; subst hq
        obtain ⟨r11, g30, h11a⟩ := hI.has 11 30 rfl (hall ⟨11, .data⟩ (by simp) rfl)
        clear hI hall hnot hcl
        refine .inl ⟨wanted_none rfl, ?_⟩
        unfold Oper.wp
        go_simp
        exact ⟨_, rfl, ⟨_, rfl, h11a⟩, ⟨_, rfl⟩⟩
      · simp at hq
    case hend =>
      intro listed act w3 hI hall
      obtain ⟨nn, rfl⟩ := hI.cls
      obtain ⟨rq, g4, hrq⟩ := hI.has 12 4 rfl (hall 12 (by decide))
      have hd := hI.defers.trans hd0
      clear hI hall
      go_wp2
      refine bodyPost_ret (v := .float .f32 rq) (by simp [results, Try.results96, g4, go_sem]) (by first | rfl | exact hd) ⟨rq, nn, rfl, hrq, rfl⟩
theorem s_l04Power (d s : Nat) (w : World) :
    Calls Try.prog 95 #[.float .f32 d, .float .f32 s] w fun e w' => ∃ r n, e = .returned (.float .f32 r) ∧ canon .f32 r = powV d s ∧ w' = w.drewN n := by
  go_enter Try.func95, Try.ntmps95
  go_wp2
  go_ret
  exact ⟨_, _, rfl, by unfold powV; exact canonF (canonF (canonF (canonF rfl rfl) rfl) rfl) rfl, rfl⟩
theorem i_AirPower (d s : Nat) (w : World) :
    Calls Try.prog 163 #[.float .f32 d, .float .f32 s] w fun e w' => ∃ r n, e = .returned (.tuple #[.float .f32 r, .bool (powO d s)]) ∧ canon .f32 r = powR d s ∧ w' = w.drewN n := by
  go_enter Try.func163, Try.ntmps163
  go_wp2_with fail
  refine (i_notAmount _ _).mono ?_
  rintro e w' ⟨n1, rfl, rfl⟩
  cases p1 : amount d
  · go_wp2
    go_ret2
    exact ⟨_, _, by unfold powO; rw [p1]; rfl, by unfold powR; rw [p1]; exact canon_zero, by first | rfl | (simp only [World.drewN_drewN]; rfl)⟩
  · have P1 := Lib.hid p1; clear p1
    go_wp2_with fail
    refine (i_notAmount _ _).mono ?_
    rintro e w' ⟨n2, rfl, rfl⟩
    cases p2 : amount s
    · go_wp2
      go_ret2
      exact ⟨_, _, by unfold powO; rw [P1.out, p2]; rfl, by unfold powR; rw [P1.out, p2]; exact canon_zero, by first | rfl | (simp only [World.drewN_drewN]; rfl)⟩
    · have P2 := Lib.hid p2; clear p2
      go_wp2_with fail
      refine (i_onlyFiniteC _ (powV d s) _ (by unfold powV; exact canonF (canonF (canonF (canonF rfl rfl) rfl) rfl) rfl)).mono ?_
      rintro e w' ⟨r', n4, rfl, hr', rfl⟩
      have HR := Lib.hid hr'; clear hr'
      go_wp2
      go_ret2
      exact ⟨_, _, by unfold powO; rw [P1.out, P2.out]; rfl, by rw [HR.out]; unfold powR; rw [P1.out, P2.out]; rfl, by first | rfl | (simp only [World.drewN_drewN]; rfl)⟩
end Go.Proofs.Ytiiiigldpbomkaa
