/- The parts of two desks compared, where they lie: drives. No statement is proved here. -/
import Derived.Test.YtiiiigldpbomkaaDrvEi
import Derived.Test.YtiiiigldpbomkaaDskV
namespace Go.Proofs.Ytiiiigldpbomkaa
open Go Go.RowKit
set_option maxHeartbeats 8000000 in
set_option maxRecDepth 100000 in
theorem s_l05SamePlantD (p0 p1 p2 p3 p4 p5 p6 p7 : Nat) (q0 q1 q2 q3 q4 q5 q6 q7 : Nat) (B B' : Nat) (w : World) (hk : C8D w B p0 p1 p2 p3 p4 p5 p6 p7) (hk' : C8D w B' q0 q1 q2 q3 q4 q5 q6 q7) (hw : W8 p0 p1 p2 p3 p4 p5 p6 p7) (hw' : W8 q0 q1 q2 q3 q4 q5 q6 q7) :
    Calls Try.prog 178 #[.pointer (some ⟨B, 11, none⟩), .pointer (some ⟨B', 11, none⟩)] w fun e w' => ∃ n, e = .returned (.bool (plantE p0 p1 p2 p3 p4 p5 p6 p7 q0 q1 q2 q3 q4 q5 q6 q7)) ∧ w' = w.drewN n := by
  obtain ⟨k0, k1, k2, k3, k4, k5, k6, k7⟩ := hk
  obtain ⟨l0, l1, l2, l3, l4, l5, l6, l7⟩ := hk'
  obtain ⟨a0, a1, a2, a3, a4, a5, a6, a7⟩ := hw
  obtain ⟨b0, b1, b2, b3, b4, b5, b6, b7⟩ := hw'
  have Q0 : ∀ W, Hid (Calls Try.prog 177 #[.float .f32 p0, .float .f32 q0] W fun e w' => e = .returned (.bool (sm p0 q0)) ∧ w' = W) := fun W => Lib.hid (s_l01Same _ _ _ a0 b0)
  have Q1 : ∀ W, Hid (Calls Try.prog 177 #[.float .f32 p1, .float .f32 q1] W fun e w' => e = .returned (.bool (sm p1 q1)) ∧ w' = W) := fun W => Lib.hid (s_l01Same _ _ _ a1 b1)
  have Q2 : ∀ W, Hid (Calls Try.prog 177 #[.float .f32 p2, .float .f32 q2] W fun e w' => e = .returned (.bool (sm p2 q2)) ∧ w' = W) := fun W => Lib.hid (s_l01Same _ _ _ a2 b2)
  have Q3 : ∀ W, Hid (Calls Try.prog 177 #[.float .f32 p3, .float .f32 q3] W fun e w' => e = .returned (.bool (sm p3 q3)) ∧ w' = W) := fun W => Lib.hid (s_l01Same _ _ _ a3 b3)
  have Q4 : ∀ W, Hid (Calls Try.prog 177 #[.float .f32 p4, .float .f32 q4] W fun e w' => e = .returned (.bool (sm p4 q4)) ∧ w' = W) := fun W => Lib.hid (s_l01Same _ _ _ a4 b4)
  have Q5 : ∀ W, Hid (Calls Try.prog 177 #[.float .f32 p5, .float .f32 q5] W fun e w' => e = .returned (.bool (sm p5 q5)) ∧ w' = W) := fun W => Lib.hid (s_l01Same _ _ _ a5 b5)
  have Q6 : ∀ W, Hid (Calls Try.prog 177 #[.float .f32 p6, .float .f32 q6] W fun e w' => e = .returned (.bool (sm p6 q6)) ∧ w' = W) := fun W => Lib.hid (s_l01Same _ _ _ a6 b6)
  have Q7 : ∀ W, Hid (Calls Try.prog 177 #[.float .f32 p7, .float .f32 q7] W fun e w' => e = .returned (.bool (sm p7 q7)) ∧ w' = W) := fun W => Lib.hid (s_l01Same _ _ _ a7 b7)
  clear a0 b0 a1 b1 a2 b2 a3 b3 a4 b4 a5 b5 a6 b6 a7 b7
  have HE : Hid (plantE p0 p1 p2 p3 p4 p5 p6 p7 q0 q1 q2 q3 q4 q5 q6 q7 = (sm p0 q0 && (sm p1 q1 && (sm p2 q2 && (sm p3 q3 && (sm p4 q4 && (sm p5 q5 && (sm p6 q6 && (sm p7 q7))))))))) := rfl
  generalize sm p0 q0 = t0 at Q0 HE
  generalize sm p1 q1 = t1 at Q1 HE
  generalize sm p2 q2 = t2 at Q2 HE
  generalize sm p3 q3 = t3 at Q3 HE
  generalize sm p4 q4 = t4 at Q4 HE
  generalize sm p5 q5 = t5 at Q5 HE
  generalize sm p6 q6 = t6 at Q6 HE
  generalize sm p7 q7 = t7 at Q7 HE
  have hdd : ∀ nn j, ∃ mm, (w.drewN nn).drewN j = w.drewN mm := fun nn j => ⟨nn + j, World.drewN_drewN ..⟩
  go_enter Try.func178, Try.ntmps178
  go_wp2_with fail
  refine wp_region_inv3 (fun iq v => match iq with
    | 0 => v = .pointer (some ⟨B, 11, none⟩)
    | 1 => v = .pointer (some ⟨B, 11, none⟩)
    | 2 => v = .pointer (some ⟨B, 11, none⟩)
    | 3 => v = .float .f32 p0
    | 4 => v = .pointer (some ⟨B', 11, none⟩)
    | 5 => v = .pointer (some ⟨B', 11, none⟩)
    | 6 => v = .pointer (some ⟨B', 11, none⟩)
    | 7 => v = .float .f32 q0
    | 8 => v = .bool t0
    | 9 => v = .bool t0
    | 10 => Gd t0 true (v = .pointer (some ⟨B, 11, none⟩)) v
    | 11 => Gd t0 true (v = .pointer (some ⟨B, 11, none⟩)) v
    | 12 => Gd t0 true (v = .pointer (some ⟨B, 12, none⟩)) v
    | 13 => Gd t0 true (v = .float .f32 p1) v
    | 14 => Gd t0 true (v = .pointer (some ⟨B', 11, none⟩)) v
    | 15 => Gd t0 true (v = .pointer (some ⟨B', 11, none⟩)) v
    | 16 => Gd t0 true (v = .pointer (some ⟨B', 12, none⟩)) v
    | 17 => Gd t0 true (v = .float .f32 q1) v
    | 18 => Gd t0 true (v = .bool t1) v
    | 19 => v = .bool (t0 && t1)
    | 20 => v = .bool (t0 && t1)
    | 21 => Gd ((t0 && t1)) true (v = .pointer (some ⟨B, 11, none⟩)) v
    | 22 => Gd ((t0 && t1)) true (v = .pointer (some ⟨B, 11, none⟩)) v
    | 23 => Gd ((t0 && t1)) true (v = .pointer (some ⟨B, 13, none⟩)) v
    | 24 => Gd ((t0 && t1)) true (v = .float .f32 p2) v
    | 25 => Gd ((t0 && t1)) true (v = .pointer (some ⟨B', 11, none⟩)) v
    | 26 => Gd ((t0 && t1)) true (v = .pointer (some ⟨B', 11, none⟩)) v
    | 27 => Gd ((t0 && t1)) true (v = .pointer (some ⟨B', 13, none⟩)) v
    | 28 => Gd ((t0 && t1)) true (v = .float .f32 q2) v
    | 29 => Gd ((t0 && t1)) true (v = .bool t2) v
    | 30 => v = .bool ((t0 && t1) && t2)
    | 31 => v = .bool ((t0 && t1) && t2)
    | 32 => Gd (((t0 && t1) && t2)) true (v = .pointer (some ⟨B, 11, none⟩)) v
    | 33 => Gd (((t0 && t1) && t2)) true (v = .pointer (some ⟨B, 11, none⟩)) v
    | 34 => Gd (((t0 && t1) && t2)) true (v = .pointer (some ⟨B, 14, none⟩)) v
    | 35 => Gd (((t0 && t1) && t2)) true (v = .float .f32 p3) v
    | 36 => Gd (((t0 && t1) && t2)) true (v = .pointer (some ⟨B', 11, none⟩)) v
    | 37 => Gd (((t0 && t1) && t2)) true (v = .pointer (some ⟨B', 11, none⟩)) v
    | 38 => Gd (((t0 && t1) && t2)) true (v = .pointer (some ⟨B', 14, none⟩)) v
    | 39 => Gd (((t0 && t1) && t2)) true (v = .float .f32 q3) v
    | 40 => Gd (((t0 && t1) && t2)) true (v = .bool t3) v
    | 41 => v = .bool (((t0 && t1) && t2) && t3)
    | 42 => v = .bool (((t0 && t1) && t2) && t3)
    | 43 => Gd ((((t0 && t1) && t2) && t3)) true (v = .pointer (some ⟨B, 11, none⟩)) v
    | 44 => Gd ((((t0 && t1) && t2) && t3)) true (v = .pointer (some ⟨B, 11, none⟩)) v
    | 45 => Gd ((((t0 && t1) && t2) && t3)) true (v = .pointer (some ⟨B, 15, none⟩)) v
    | 46 => Gd ((((t0 && t1) && t2) && t3)) true (v = .float .f32 p4) v
    | 47 => Gd ((((t0 && t1) && t2) && t3)) true (v = .pointer (some ⟨B', 11, none⟩)) v
    | 48 => Gd ((((t0 && t1) && t2) && t3)) true (v = .pointer (some ⟨B', 11, none⟩)) v
    | 49 => Gd ((((t0 && t1) && t2) && t3)) true (v = .pointer (some ⟨B', 15, none⟩)) v
    | 50 => Gd ((((t0 && t1) && t2) && t3)) true (v = .float .f32 q4) v
    | 51 => Gd ((((t0 && t1) && t2) && t3)) true (v = .bool t4) v
    | 52 => v = .bool ((((t0 && t1) && t2) && t3) && t4)
    | 53 => v = .bool ((((t0 && t1) && t2) && t3) && t4)
    | 54 => Gd (((((t0 && t1) && t2) && t3) && t4)) true (v = .pointer (some ⟨B, 11, none⟩)) v
    | 55 => Gd (((((t0 && t1) && t2) && t3) && t4)) true (v = .pointer (some ⟨B, 11, none⟩)) v
    | 56 => Gd (((((t0 && t1) && t2) && t3) && t4)) true (v = .pointer (some ⟨B, 16, none⟩)) v
    | 57 => Gd (((((t0 && t1) && t2) && t3) && t4)) true (v = .float .f32 p5) v
    | 58 => Gd (((((t0 && t1) && t2) && t3) && t4)) true (v = .pointer (some ⟨B', 11, none⟩)) v
    | 59 => Gd (((((t0 && t1) && t2) && t3) && t4)) true (v = .pointer (some ⟨B', 11, none⟩)) v
    | 60 => Gd (((((t0 && t1) && t2) && t3) && t4)) true (v = .pointer (some ⟨B', 16, none⟩)) v
    | 61 => Gd (((((t0 && t1) && t2) && t3) && t4)) true (v = .float .f32 q5) v
    | 62 => Gd (((((t0 && t1) && t2) && t3) && t4)) true (v = .bool t5) v
    | 63 => v = .bool (((((t0 && t1) && t2) && t3) && t4) && t5)
    | 64 => v = .bool (((((t0 && t1) && t2) && t3) && t4) && t5)
    | 65 => Gd ((((((t0 && t1) && t2) && t3) && t4) && t5)) true (v = .pointer (some ⟨B, 11, none⟩)) v
    | 66 => Gd ((((((t0 && t1) && t2) && t3) && t4) && t5)) true (v = .pointer (some ⟨B, 11, none⟩)) v
    | 67 => Gd ((((((t0 && t1) && t2) && t3) && t4) && t5)) true (v = .pointer (some ⟨B, 17, none⟩)) v
    | 68 => Gd ((((((t0 && t1) && t2) && t3) && t4) && t5)) true (v = .float .f32 p6) v
    | 69 => Gd ((((((t0 && t1) && t2) && t3) && t4) && t5)) true (v = .pointer (some ⟨B', 11, none⟩)) v
    | 70 => Gd ((((((t0 && t1) && t2) && t3) && t4) && t5)) true (v = .pointer (some ⟨B', 11, none⟩)) v
    | 71 => Gd ((((((t0 && t1) && t2) && t3) && t4) && t5)) true (v = .pointer (some ⟨B', 17, none⟩)) v
    | 72 => Gd ((((((t0 && t1) && t2) && t3) && t4) && t5)) true (v = .float .f32 q6) v
    | 73 => Gd ((((((t0 && t1) && t2) && t3) && t4) && t5)) true (v = .bool t6) v
    | 74 => v = .bool ((((((t0 && t1) && t2) && t3) && t4) && t5) && t6)
    | 75 => v = .bool ((((((t0 && t1) && t2) && t3) && t4) && t5) && t6)
    | 76 => Gd (((((((t0 && t1) && t2) && t3) && t4) && t5) && t6)) true (v = .pointer (some ⟨B, 11, none⟩)) v
    | 77 => Gd (((((((t0 && t1) && t2) && t3) && t4) && t5) && t6)) true (v = .pointer (some ⟨B, 11, none⟩)) v
    | 78 => Gd (((((((t0 && t1) && t2) && t3) && t4) && t5) && t6)) true (v = .pointer (some ⟨B, 18, none⟩)) v
    | 79 => Gd (((((((t0 && t1) && t2) && t3) && t4) && t5) && t6)) true (v = .float .f32 p7) v
    | 80 => Gd (((((((t0 && t1) && t2) && t3) && t4) && t5) && t6)) true (v = .pointer (some ⟨B', 11, none⟩)) v
    | 81 => Gd (((((((t0 && t1) && t2) && t3) && t4) && t5) && t6)) true (v = .pointer (some ⟨B', 11, none⟩)) v
    | 82 => Gd (((((((t0 && t1) && t2) && t3) && t4) && t5) && t6)) true (v = .pointer (some ⟨B', 18, none⟩)) v
    | 83 => Gd (((((((t0 && t1) && t2) && t3) && t4) && t5) && t6)) true (v = .float .f32 q7) v
    | 84 => Gd (((((((t0 && t1) && t2) && t3) && t4) && t5) && t6)) true (v = .bool t7) v
    | 85 => v = .bool (((((((t0 && t1) && t2) && t3) && t4) && t5) && t6) && t7)
    | 86 => v = .bool (((((((t0 && t1) && t2) && t3) && t4) && t5) && t6) && t7)
    | _ => False) (fun _ ww => ∃ nn, ww = w.drewN nn) (by kernel_rfl) (by kernel_rfl) ⟨1, rfl⟩ ?hop ?hend
  case hop =>
    intro q o hq listed act w3 hI hnot hcl hall
    obtain ⟨nn, rfl⟩ := hI.cls
    rcases q with _ | _ | _ | _ | _ | _ | _ | _ | _ | _ | _ | _ | _ | _ | _ | _ | _ | _ | _ | _ | _ | _ | _ | _ | _ | _ | _ | _ | _ | _ | _ | _ | _ | _ | _ | _ | _ | _ | _ | _ | _ | _ | _ | _ | _ | _ | _ | _ | _ | _ | _ | _ | _ | _ | _ | _ | _ | _ | _ | _ | _ | _ | _ | _ | _ | _ | _ | _ | _ | _ | _ | _ | _ | _ | _ | _ | _ | _ | _ | _ | _ | _ | _ | _ | _ | _ | _ | q
    · simp at hq; subst hq
      have g0 : act.tmps[0]?.getD undef = .pointer (some ⟨B, 11, none⟩) := hI.kept 0 (by kernel_rfl)
      clear hI hall hnot hcl
      refine .inl ⟨wanted_none rfl, ?_⟩
      unfold Oper.wp
      go_simp
      all_goals exact ⟨_, rfl, rfl, ⟨_, rfl⟩⟩
    · simp at hq; subst hq
      have g5 : act.tmps[5]?.getD undef = .pointer (some ⟨B, 11, none⟩) := hI.has 0 5 rfl (hall ⟨0, .data⟩ (by simp) rfl)
      clear hI hall hnot hcl
      refine .inl ⟨wanted_none rfl, ?_⟩
      unfold Oper.wp
      go_simp
      all_goals exact ⟨_, rfl, rfl, ⟨_, rfl⟩⟩
    · simp at hq; subst hq
      have g6 : act.tmps[6]?.getD undef = .pointer (some ⟨B, 11, none⟩) := hI.has 1 6 rfl (hall ⟨1, .data⟩ (by simp) rfl)
      clear hI hall hnot hcl
      refine .inl ⟨wanted_none rfl, ?_⟩
      unfold Oper.wp
      go_simp
      all_goals exact ⟨_, rfl, rfl, ⟨_, rfl⟩⟩
    · simp at hq; subst hq
      have g7 : act.tmps[7]?.getD undef = .pointer (some ⟨B, 11, none⟩) := hI.has 2 7 rfl (hall ⟨2, .data⟩ (by simp) rfl)
      clear hI hall hnot hcl
      refine .inl ⟨wanted_none rfl, ?_⟩
      unfold Oper.wp
      go_simp
      all_goals exact ⟨_, rfl, rfl, ⟨_, rfl⟩⟩
    · simp at hq; subst hq
      have g1 : act.tmps[1]?.getD undef = .pointer (some ⟨B', 11, none⟩) := hI.kept 1 (by kernel_rfl)
      clear hI hall hnot hcl
      refine .inl ⟨wanted_none rfl, ?_⟩
      unfold Oper.wp
      go_simp
      all_goals exact ⟨_, rfl, rfl, ⟨_, rfl⟩⟩
    · simp at hq; subst hq
      have g9 : act.tmps[9]?.getD undef = .pointer (some ⟨B', 11, none⟩) := hI.has 4 9 rfl (hall ⟨4, .data⟩ (by simp) rfl)
      clear hI hall hnot hcl
      refine .inl ⟨wanted_none rfl, ?_⟩
      unfold Oper.wp
      go_simp
      all_goals exact ⟨_, rfl, rfl, ⟨_, rfl⟩⟩
    · simp at hq; subst hq
      have g10 : act.tmps[10]?.getD undef = .pointer (some ⟨B', 11, none⟩) := hI.has 5 10 rfl (hall ⟨5, .data⟩ (by simp) rfl)
      clear hI hall hnot hcl
      refine .inl ⟨wanted_none rfl, ?_⟩
      unfold Oper.wp
      go_simp
      all_goals exact ⟨_, rfl, rfl, ⟨_, rfl⟩⟩
    · simp at hq; subst hq
      have g11 : act.tmps[11]?.getD undef = .pointer (some ⟨B', 11, none⟩) := hI.has 6 11 rfl (hall ⟨6, .data⟩ (by simp) rfl)
      clear hI hall hnot hcl
      refine .inl ⟨wanted_none rfl, ?_⟩
      unfold Oper.wp
      go_simp
      all_goals exact ⟨_, rfl, rfl, ⟨_, rfl⟩⟩
    · simp at hq; subst hq
      have g8 : act.tmps[8]?.getD undef = .float .f32 p0 := hI.has 3 8 rfl (hall ⟨3, .data⟩ (by simp) rfl)
      have g12 : act.tmps[12]?.getD undef = .float .f32 q0 := hI.has 7 12 rfl (hall ⟨7, .data⟩ (by simp) rfl)
      clear hI hall hnot hcl
      refine .inl ⟨wanted_none rfl, ?_⟩
      unfold Oper.wp
      go_simp
      refine (Q0 _).out.mono ?_
      rintro e w4 ⟨rfl, rfl⟩
      exact ⟨_, rfl, rfl, ⟨_, rfl⟩⟩
    · simp at hq; subst hq
      have g13 : act.tmps[13]?.getD undef = .bool t0 := hI.has 8 13 rfl (hall ⟨8, .data⟩ (by simp) rfl)
      clear hI hall hnot hcl
      refine .inl ⟨wanted_none rfl, ?_⟩
      unfold Oper.wp
      go_simp
      all_goals exact ⟨_, rfl, rfl, ⟨_, rfl⟩⟩
    · simp at hq; subst hq
      have gg : act.tmps[14]?.getD undef = .bool t0 := hI.has 9 14 rfl (hall ⟨9, .guard⟩ (by simp) rfl)
      rcases Bool.eq_false_or_eq_true t0 with hc | hc
      case inr =>
        exact .inr ⟨(wanted_of rfl rfl (gg.trans (by rw [hc]))).trans rfl, Gd.no hc, ⟨_, rfl⟩⟩
      have g0 : act.tmps[0]?.getD undef = .pointer (some ⟨B, 11, none⟩) := hI.kept 0 (by kernel_rfl)
      clear hI hall hnot hcl
      refine .inl ⟨(wanted_of rfl rfl (gg.trans (by rw [hc]))).trans rfl, ?_⟩
      clear gg
      unfold Oper.wp
      go_simp
      all_goals exact ⟨_, rfl, Gd.yes (by first | rfl | exact hc) rfl, ⟨_, rfl⟩⟩
    · simp at hq; subst hq
      have gg : act.tmps[14]?.getD undef = .bool t0 := hI.has 9 14 rfl (hall ⟨9, .guard⟩ (by simp) rfl)
      rcases Bool.eq_false_or_eq_true t0 with hc | hc
      case inr =>
        exact .inr ⟨(wanted_of rfl rfl (gg.trans (by rw [hc]))).trans rfl, Gd.no hc, ⟨_, rfl⟩⟩
      have g15 : act.tmps[15]?.getD undef = .pointer (some ⟨B, 11, none⟩) := Gd.get (hI.has 10 15 rfl (hall ⟨10, .data⟩ (by simp) rfl)) hc
      clear hI hall hnot hcl
      refine .inl ⟨(wanted_of rfl rfl (gg.trans (by rw [hc]))).trans rfl, ?_⟩
      clear gg
      unfold Oper.wp
      go_simp
      all_goals exact ⟨_, rfl, Gd.yes (by first | rfl | exact hc) rfl, ⟨_, rfl⟩⟩
    · simp at hq; subst hq
      have gg : act.tmps[14]?.getD undef = .bool t0 := hI.has 9 14 rfl (hall ⟨9, .guard⟩ (by simp) rfl)
      rcases Bool.eq_false_or_eq_true t0 with hc | hc
      case inr =>
        exact .inr ⟨(wanted_of rfl rfl (gg.trans (by rw [hc]))).trans rfl, Gd.no hc, ⟨_, rfl⟩⟩
      have g16 : act.tmps[16]?.getD undef = .pointer (some ⟨B, 11, none⟩) := Gd.get (hI.has 11 16 rfl (hall ⟨11, .data⟩ (by simp) rfl)) hc
      clear hI hall hnot hcl
      refine .inl ⟨(wanted_of rfl rfl (gg.trans (by rw [hc]))).trans rfl, ?_⟩
      clear gg
      unfold Oper.wp
      go_simp
      all_goals exact ⟨_, rfl, Gd.yes (by first | rfl | exact hc) rfl, ⟨_, rfl⟩⟩
    · simp at hq; subst hq
      have gg : act.tmps[14]?.getD undef = .bool t0 := hI.has 9 14 rfl (hall ⟨9, .guard⟩ (by simp) rfl)
      rcases Bool.eq_false_or_eq_true t0 with hc | hc
      case inr =>
        exact .inr ⟨(wanted_of rfl rfl (gg.trans (by rw [hc]))).trans rfl, Gd.no hc, ⟨_, rfl⟩⟩
      have g17 : act.tmps[17]?.getD undef = .pointer (some ⟨B, 12, none⟩) := Gd.get (hI.has 12 17 rfl (hall ⟨12, .data⟩ (by simp) rfl)) hc
      clear hI hall hnot hcl
      refine .inl ⟨(wanted_of rfl rfl (gg.trans (by rw [hc]))).trans rfl, ?_⟩
      clear gg
      unfold Oper.wp
      go_simp
      all_goals exact ⟨_, rfl, Gd.yes (by first | rfl | exact hc) rfl, ⟨_, rfl⟩⟩
    · simp at hq; subst hq
      have gg : act.tmps[14]?.getD undef = .bool t0 := hI.has 9 14 rfl (hall ⟨9, .guard⟩ (by simp) rfl)
      rcases Bool.eq_false_or_eq_true t0 with hc | hc
      case inr =>
        exact .inr ⟨(wanted_of rfl rfl (gg.trans (by rw [hc]))).trans rfl, Gd.no hc, ⟨_, rfl⟩⟩
      have g1 : act.tmps[1]?.getD undef = .pointer (some ⟨B', 11, none⟩) := hI.kept 1 (by kernel_rfl)
      clear hI hall hnot hcl
      refine .inl ⟨(wanted_of rfl rfl (gg.trans (by rw [hc]))).trans rfl, ?_⟩
      clear gg
      unfold Oper.wp
      go_simp
      all_goals exact ⟨_, rfl, Gd.yes (by first | rfl | exact hc) rfl, ⟨_, rfl⟩⟩
    · simp at hq; subst hq
      have gg : act.tmps[14]?.getD undef = .bool t0 := hI.has 9 14 rfl (hall ⟨9, .guard⟩ (by simp) rfl)
      rcases Bool.eq_false_or_eq_true t0 with hc | hc
      case inr =>
        exact .inr ⟨(wanted_of rfl rfl (gg.trans (by rw [hc]))).trans rfl, Gd.no hc, ⟨_, rfl⟩⟩
      have g19 : act.tmps[19]?.getD undef = .pointer (some ⟨B', 11, none⟩) := Gd.get (hI.has 14 19 rfl (hall ⟨14, .data⟩ (by simp) rfl)) hc
      clear hI hall hnot hcl
      refine .inl ⟨(wanted_of rfl rfl (gg.trans (by rw [hc]))).trans rfl, ?_⟩
      clear gg
      unfold Oper.wp
      go_simp
      all_goals exact ⟨_, rfl, Gd.yes (by first | rfl | exact hc) rfl, ⟨_, rfl⟩⟩
    · simp at hq; subst hq
      have gg : act.tmps[14]?.getD undef = .bool t0 := hI.has 9 14 rfl (hall ⟨9, .guard⟩ (by simp) rfl)
      rcases Bool.eq_false_or_eq_true t0 with hc | hc
      case inr =>
        exact .inr ⟨(wanted_of rfl rfl (gg.trans (by rw [hc]))).trans rfl, Gd.no hc, ⟨_, rfl⟩⟩
      have g20 : act.tmps[20]?.getD undef = .pointer (some ⟨B', 11, none⟩) := Gd.get (hI.has 15 20 rfl (hall ⟨15, .data⟩ (by simp) rfl)) hc
      clear hI hall hnot hcl
      refine .inl ⟨(wanted_of rfl rfl (gg.trans (by rw [hc]))).trans rfl, ?_⟩
      clear gg
      unfold Oper.wp
      go_simp
      all_goals exact ⟨_, rfl, Gd.yes (by first | rfl | exact hc) rfl, ⟨_, rfl⟩⟩
    · simp at hq; subst hq
      have gg : act.tmps[14]?.getD undef = .bool t0 := hI.has 9 14 rfl (hall ⟨9, .guard⟩ (by simp) rfl)
      rcases Bool.eq_false_or_eq_true t0 with hc | hc
      case inr =>
        exact .inr ⟨(wanted_of rfl rfl (gg.trans (by rw [hc]))).trans rfl, Gd.no hc, ⟨_, rfl⟩⟩
      have g21 : act.tmps[21]?.getD undef = .pointer (some ⟨B', 12, none⟩) := Gd.get (hI.has 16 21 rfl (hall ⟨16, .data⟩ (by simp) rfl)) hc
      clear hI hall hnot hcl
      refine .inl ⟨(wanted_of rfl rfl (gg.trans (by rw [hc]))).trans rfl, ?_⟩
      clear gg
      unfold Oper.wp
      go_simp
      all_goals exact ⟨_, rfl, Gd.yes (by first | rfl | exact hc) rfl, ⟨_, rfl⟩⟩
    · simp at hq; subst hq
      have gg : act.tmps[14]?.getD undef = .bool t0 := hI.has 9 14 rfl (hall ⟨9, .guard⟩ (by simp) rfl)
      rcases Bool.eq_false_or_eq_true t0 with hc | hc
      case inr =>
        exact .inr ⟨(wanted_of rfl rfl (gg.trans (by rw [hc]))).trans rfl, Gd.no hc, ⟨_, rfl⟩⟩
      have g18 : act.tmps[18]?.getD undef = .float .f32 p1 := Gd.get (hI.has 13 18 rfl (hall ⟨13, .data⟩ (by simp) rfl)) hc
      have g22 : act.tmps[22]?.getD undef = .float .f32 q1 := Gd.get (hI.has 17 22 rfl (hall ⟨17, .data⟩ (by simp) rfl)) hc
      clear hI hall hnot hcl
      refine .inl ⟨(wanted_of rfl rfl (gg.trans (by rw [hc]))).trans rfl, ?_⟩
      clear gg
      unfold Oper.wp
      go_simp
      refine (Q1 _).out.mono ?_
      rintro e w4 ⟨rfl, rfl⟩
      exact ⟨_, rfl, Gd.yes (by first | rfl | exact hc) rfl, ⟨_, rfl⟩⟩
    · simp at hq; subst hq
      have g14 : act.tmps[14]?.getD undef = .bool t0 := hI.has 9 14 rfl (hall ⟨9, .data⟩ (by simp) rfl)
      have G23 := hI.has 18 23 rfl (hall ⟨18, .data⟩ (by simp) rfl)
      clear hI hall hnot hcl
      refine .inl ⟨wanted_none rfl, ?_⟩
      unfold Oper.wp
      rcases Bool.eq_false_or_eq_true t0 with hc | hc
      · rw [hc] at g14
        have g23 := Gd.get G23 hc
        clear G23
        go_simp
        all_goals exact ⟨_, rfl, by first | rfl | (rw [hc]; rfl), ⟨_, rfl⟩⟩
      · rw [hc] at g14
        have g23 := Gd.un G23 hc
        clear G23
        go_simp
        all_goals exact ⟨_, rfl, by first | rfl | (rw [hc]; rfl), ⟨_, rfl⟩⟩
    · simp at hq; subst hq
      have g24 : act.tmps[24]?.getD undef = .bool (t0 && t1) := hI.has 19 24 rfl (hall ⟨19, .data⟩ (by simp) rfl)
      clear hI hall hnot hcl
      refine .inl ⟨wanted_none rfl, ?_⟩
      unfold Oper.wp
      go_simp
      all_goals exact ⟨_, rfl, rfl, ⟨_, rfl⟩⟩
    · simp at hq; subst hq
      have gg : act.tmps[25]?.getD undef = .bool ((t0 && t1)) := hI.has 20 25 rfl (hall ⟨20, .guard⟩ (by simp) rfl)
      rcases Bool.eq_false_or_eq_true ((t0 && t1)) with hc | hc
      case inr =>
        exact .inr ⟨(wanted_of rfl rfl (gg.trans (by rw [hc]))).trans rfl, Gd.no hc, ⟨_, rfl⟩⟩
      have g0 : act.tmps[0]?.getD undef = .pointer (some ⟨B, 11, none⟩) := hI.kept 0 (by kernel_rfl)
      clear hI hall hnot hcl
      refine .inl ⟨(wanted_of rfl rfl (gg.trans (by rw [hc]))).trans rfl, ?_⟩
      clear gg
      unfold Oper.wp
      go_simp
      all_goals exact ⟨_, rfl, Gd.yes (by first | rfl | exact hc) rfl, ⟨_, rfl⟩⟩
    · simp at hq; subst hq
      have gg : act.tmps[25]?.getD undef = .bool ((t0 && t1)) := hI.has 20 25 rfl (hall ⟨20, .guard⟩ (by simp) rfl)
      rcases Bool.eq_false_or_eq_true ((t0 && t1)) with hc | hc
      case inr =>
        exact .inr ⟨(wanted_of rfl rfl (gg.trans (by rw [hc]))).trans rfl, Gd.no hc, ⟨_, rfl⟩⟩
      have g26 : act.tmps[26]?.getD undef = .pointer (some ⟨B, 11, none⟩) := Gd.get (hI.has 21 26 rfl (hall ⟨21, .data⟩ (by simp) rfl)) hc
      clear hI hall hnot hcl
      refine .inl ⟨(wanted_of rfl rfl (gg.trans (by rw [hc]))).trans rfl, ?_⟩
      clear gg
      unfold Oper.wp
      go_simp
      all_goals exact ⟨_, rfl, Gd.yes (by first | rfl | exact hc) rfl, ⟨_, rfl⟩⟩
    · simp at hq; subst hq
      have gg : act.tmps[25]?.getD undef = .bool ((t0 && t1)) := hI.has 20 25 rfl (hall ⟨20, .guard⟩ (by simp) rfl)
      rcases Bool.eq_false_or_eq_true ((t0 && t1)) with hc | hc
      case inr =>
        exact .inr ⟨(wanted_of rfl rfl (gg.trans (by rw [hc]))).trans rfl, Gd.no hc, ⟨_, rfl⟩⟩
      have g27 : act.tmps[27]?.getD undef = .pointer (some ⟨B, 11, none⟩) := Gd.get (hI.has 22 27 rfl (hall ⟨22, .data⟩ (by simp) rfl)) hc
      clear hI hall hnot hcl
      refine .inl ⟨(wanted_of rfl rfl (gg.trans (by rw [hc]))).trans rfl, ?_⟩
      clear gg
      unfold Oper.wp
      go_simp
      all_goals exact ⟨_, rfl, Gd.yes (by first | rfl | exact hc) rfl, ⟨_, rfl⟩⟩
    · simp at hq; subst hq
      have gg : act.tmps[25]?.getD undef = .bool ((t0 && t1)) := hI.has 20 25 rfl (hall ⟨20, .guard⟩ (by simp) rfl)
      rcases Bool.eq_false_or_eq_true ((t0 && t1)) with hc | hc
      case inr =>
        exact .inr ⟨(wanted_of rfl rfl (gg.trans (by rw [hc]))).trans rfl, Gd.no hc, ⟨_, rfl⟩⟩
      have g28 : act.tmps[28]?.getD undef = .pointer (some ⟨B, 13, none⟩) := Gd.get (hI.has 23 28 rfl (hall ⟨23, .data⟩ (by simp) rfl)) hc
      clear hI hall hnot hcl
      refine .inl ⟨(wanted_of rfl rfl (gg.trans (by rw [hc]))).trans rfl, ?_⟩
      clear gg
      unfold Oper.wp
      go_simp
      all_goals exact ⟨_, rfl, Gd.yes (by first | rfl | exact hc) rfl, ⟨_, rfl⟩⟩
    · simp at hq; subst hq
      have gg : act.tmps[25]?.getD undef = .bool ((t0 && t1)) := hI.has 20 25 rfl (hall ⟨20, .guard⟩ (by simp) rfl)
      rcases Bool.eq_false_or_eq_true ((t0 && t1)) with hc | hc
      case inr =>
        exact .inr ⟨(wanted_of rfl rfl (gg.trans (by rw [hc]))).trans rfl, Gd.no hc, ⟨_, rfl⟩⟩
      have g1 : act.tmps[1]?.getD undef = .pointer (some ⟨B', 11, none⟩) := hI.kept 1 (by kernel_rfl)
      clear hI hall hnot hcl
      refine .inl ⟨(wanted_of rfl rfl (gg.trans (by rw [hc]))).trans rfl, ?_⟩
      clear gg
      unfold Oper.wp
      go_simp
      all_goals exact ⟨_, rfl, Gd.yes (by first | rfl | exact hc) rfl, ⟨_, rfl⟩⟩
    · simp at hq; subst hq
      have gg : act.tmps[25]?.getD undef = .bool ((t0 && t1)) := hI.has 20 25 rfl (hall ⟨20, .guard⟩ (by simp) rfl)
      rcases Bool.eq_false_or_eq_true ((t0 && t1)) with hc | hc
      case inr =>
        exact .inr ⟨(wanted_of rfl rfl (gg.trans (by rw [hc]))).trans rfl, Gd.no hc, ⟨_, rfl⟩⟩
      have g30 : act.tmps[30]?.getD undef = .pointer (some ⟨B', 11, none⟩) := Gd.get (hI.has 25 30 rfl (hall ⟨25, .data⟩ (by simp) rfl)) hc
      clear hI hall hnot hcl
      refine .inl ⟨(wanted_of rfl rfl (gg.trans (by rw [hc]))).trans rfl, ?_⟩
      clear gg
      unfold Oper.wp
      go_simp
      all_goals exact ⟨_, rfl, Gd.yes (by first | rfl | exact hc) rfl, ⟨_, rfl⟩⟩
    · simp at hq; subst hq
      have gg : act.tmps[25]?.getD undef = .bool ((t0 && t1)) := hI.has 20 25 rfl (hall ⟨20, .guard⟩ (by simp) rfl)
      rcases Bool.eq_false_or_eq_true ((t0 && t1)) with hc | hc
      case inr =>
        exact .inr ⟨(wanted_of rfl rfl (gg.trans (by rw [hc]))).trans rfl, Gd.no hc, ⟨_, rfl⟩⟩
      have g31 : act.tmps[31]?.getD undef = .pointer (some ⟨B', 11, none⟩) := Gd.get (hI.has 26 31 rfl (hall ⟨26, .data⟩ (by simp) rfl)) hc
      clear hI hall hnot hcl
      refine .inl ⟨(wanted_of rfl rfl (gg.trans (by rw [hc]))).trans rfl, ?_⟩
      clear gg
      unfold Oper.wp
      go_simp
      all_goals exact ⟨_, rfl, Gd.yes (by first | rfl | exact hc) rfl, ⟨_, rfl⟩⟩
    · simp at hq; subst hq
      have gg : act.tmps[25]?.getD undef = .bool ((t0 && t1)) := hI.has 20 25 rfl (hall ⟨20, .guard⟩ (by simp) rfl)
      rcases Bool.eq_false_or_eq_true ((t0 && t1)) with hc | hc
      case inr =>
        exact .inr ⟨(wanted_of rfl rfl (gg.trans (by rw [hc]))).trans rfl, Gd.no hc, ⟨_, rfl⟩⟩
      have g32 : act.tmps[32]?.getD undef = .pointer (some ⟨B', 13, none⟩) := Gd.get (hI.has 27 32 rfl (hall ⟨27, .data⟩ (by simp) rfl)) hc
      clear hI hall hnot hcl
      refine .inl ⟨(wanted_of rfl rfl (gg.trans (by rw [hc]))).trans rfl, ?_⟩
      clear gg
      unfold Oper.wp
      go_simp
      all_goals exact ⟨_, rfl, Gd.yes (by first | rfl | exact hc) rfl, ⟨_, rfl⟩⟩
    · simp at hq; subst hq
      have gg : act.tmps[25]?.getD undef = .bool ((t0 && t1)) := hI.has 20 25 rfl (hall ⟨20, .guard⟩ (by simp) rfl)
      rcases Bool.eq_false_or_eq_true ((t0 && t1)) with hc | hc
      case inr =>
        exact .inr ⟨(wanted_of rfl rfl (gg.trans (by rw [hc]))).trans rfl, Gd.no hc, ⟨_, rfl⟩⟩
      have g29 : act.tmps[29]?.getD undef = .float .f32 p2 := Gd.get (hI.has 24 29 rfl (hall ⟨24, .data⟩ (by simp) rfl)) hc
      have g33 : act.tmps[33]?.getD undef = .float .f32 q2 := Gd.get (hI.has 28 33 rfl (hall ⟨28, .data⟩ (by simp) rfl)) hc
      clear hI hall hnot hcl
      refine .inl ⟨(wanted_of rfl rfl (gg.trans (by rw [hc]))).trans rfl, ?_⟩
      clear gg
      unfold Oper.wp
      go_simp
      refine (Q2 _).out.mono ?_
      rintro e w4 ⟨rfl, rfl⟩
      exact ⟨_, rfl, Gd.yes (by first | rfl | exact hc) rfl, ⟨_, rfl⟩⟩
    · simp at hq; subst hq
      have g25 : act.tmps[25]?.getD undef = .bool (t0 && t1) := hI.has 20 25 rfl (hall ⟨20, .data⟩ (by simp) rfl)
      have G34 := hI.has 29 34 rfl (hall ⟨29, .data⟩ (by simp) rfl)
      clear hI hall hnot hcl
      refine .inl ⟨wanted_none rfl, ?_⟩
      unfold Oper.wp
      rcases Bool.eq_false_or_eq_true ((t0 && t1)) with hc | hc
      · rw [hc] at g25
        have g34 := Gd.get G34 hc
        clear G34
        go_simp
        all_goals exact ⟨_, rfl, by first | rfl | (rw [hc]; rfl), ⟨_, rfl⟩⟩
      · rw [hc] at g25
        have g34 := Gd.un G34 hc
        clear G34
        go_simp
        all_goals exact ⟨_, rfl, by first | rfl | (rw [hc]; rfl), ⟨_, rfl⟩⟩
    · simp at hq; subst hq
      have g35 : act.tmps[35]?.getD undef = .bool ((t0 && t1) && t2) := hI.has 30 35 rfl (hall ⟨30, .data⟩ (by simp) rfl)
      clear hI hall hnot hcl
      refine .inl ⟨wanted_none rfl, ?_⟩
      unfold Oper.wp
      go_simp
      all_goals exact ⟨_, rfl, rfl, ⟨_, rfl⟩⟩
    · simp at hq; subst hq
      have gg : act.tmps[36]?.getD undef = .bool (((t0 && t1) && t2)) := hI.has 31 36 rfl (hall ⟨31, .guard⟩ (by simp) rfl)
      rcases Bool.eq_false_or_eq_true (((t0 && t1) && t2)) with hc | hc
      case inr =>
        exact .inr ⟨(wanted_of rfl rfl (gg.trans (by rw [hc]))).trans rfl, Gd.no hc, ⟨_, rfl⟩⟩
      have g0 : act.tmps[0]?.getD undef = .pointer (some ⟨B, 11, none⟩) := hI.kept 0 (by kernel_rfl)
      clear hI hall hnot hcl
      refine .inl ⟨(wanted_of rfl rfl (gg.trans (by rw [hc]))).trans rfl, ?_⟩
      clear gg
      unfold Oper.wp
      go_simp
      all_goals exact ⟨_, rfl, Gd.yes (by first | rfl | exact hc) rfl, ⟨_, rfl⟩⟩
    · simp at hq; subst hq
      have gg : act.tmps[36]?.getD undef = .bool (((t0 && t1) && t2)) := hI.has 31 36 rfl (hall ⟨31, .guard⟩ (by simp) rfl)
      rcases Bool.eq_false_or_eq_true (((t0 && t1) && t2)) with hc | hc
      case inr =>
        exact .inr ⟨(wanted_of rfl rfl (gg.trans (by rw [hc]))).trans rfl, Gd.no hc, ⟨_, rfl⟩⟩
      have g37 : act.tmps[37]?.getD undef = .pointer (some ⟨B, 11, none⟩) := Gd.get (hI.has 32 37 rfl (hall ⟨32, .data⟩ (by simp) rfl)) hc
      clear hI hall hnot hcl
      refine .inl ⟨(wanted_of rfl rfl (gg.trans (by rw [hc]))).trans rfl, ?_⟩
      clear gg
      unfold Oper.wp
      go_simp
      all_goals exact ⟨_, rfl, Gd.yes (by first | rfl | exact hc) rfl, ⟨_, rfl⟩⟩
    · simp at hq; subst hq
      have gg : act.tmps[36]?.getD undef = .bool (((t0 && t1) && t2)) := hI.has 31 36 rfl (hall ⟨31, .guard⟩ (by simp) rfl)
      rcases Bool.eq_false_or_eq_true (((t0 && t1) && t2)) with hc | hc
      case inr =>
        exact .inr ⟨(wanted_of rfl rfl (gg.trans (by rw [hc]))).trans rfl, Gd.no hc, ⟨_, rfl⟩⟩
      have g38 : act.tmps[38]?.getD undef = .pointer (some ⟨B, 11, none⟩) := Gd.get (hI.has 33 38 rfl (hall ⟨33, .data⟩ (by simp) rfl)) hc
      clear hI hall hnot hcl
      refine .inl ⟨(wanted_of rfl rfl (gg.trans (by rw [hc]))).trans rfl, ?_⟩
      clear gg
      unfold Oper.wp
      go_simp
      all_goals exact ⟨_, rfl, Gd.yes (by first | rfl | exact hc) rfl, ⟨_, rfl⟩⟩
    · simp at hq; subst hq
      have gg : act.tmps[36]?.getD undef = .bool (((t0 && t1) && t2)) := hI.has 31 36 rfl (hall ⟨31, .guard⟩ (by simp) rfl)
      rcases Bool.eq_false_or_eq_true (((t0 && t1) && t2)) with hc | hc
      case inr =>
        exact .inr ⟨(wanted_of rfl rfl (gg.trans (by rw [hc]))).trans rfl, Gd.no hc, ⟨_, rfl⟩⟩
      have g39 : act.tmps[39]?.getD undef = .pointer (some ⟨B, 14, none⟩) := Gd.get (hI.has 34 39 rfl (hall ⟨34, .data⟩ (by simp) rfl)) hc
      clear hI hall hnot hcl
      refine .inl ⟨(wanted_of rfl rfl (gg.trans (by rw [hc]))).trans rfl, ?_⟩
      clear gg
      unfold Oper.wp
      go_simp
      all_goals exact ⟨_, rfl, Gd.yes (by first | rfl | exact hc) rfl, ⟨_, rfl⟩⟩
    · simp at hq; subst hq
      have gg : act.tmps[36]?.getD undef = .bool (((t0 && t1) && t2)) := hI.has 31 36 rfl (hall ⟨31, .guard⟩ (by simp) rfl)
      rcases Bool.eq_false_or_eq_true (((t0 && t1) && t2)) with hc | hc
      case inr =>
        exact .inr ⟨(wanted_of rfl rfl (gg.trans (by rw [hc]))).trans rfl, Gd.no hc, ⟨_, rfl⟩⟩
      have g1 : act.tmps[1]?.getD undef = .pointer (some ⟨B', 11, none⟩) := hI.kept 1 (by kernel_rfl)
      clear hI hall hnot hcl
      refine .inl ⟨(wanted_of rfl rfl (gg.trans (by rw [hc]))).trans rfl, ?_⟩
      clear gg
      unfold Oper.wp
      go_simp
      all_goals exact ⟨_, rfl, Gd.yes (by first | rfl | exact hc) rfl, ⟨_, rfl⟩⟩
    · simp at hq; subst hq
      have gg : act.tmps[36]?.getD undef = .bool (((t0 && t1) && t2)) := hI.has 31 36 rfl (hall ⟨31, .guard⟩ (by simp) rfl)
      rcases Bool.eq_false_or_eq_true (((t0 && t1) && t2)) with hc | hc
      case inr =>
        exact .inr ⟨(wanted_of rfl rfl (gg.trans (by rw [hc]))).trans rfl, Gd.no hc, ⟨_, rfl⟩⟩
      have g41 : act.tmps[41]?.getD undef = .pointer (some ⟨B', 11, none⟩) := Gd.get (hI.has 36 41 rfl (hall ⟨36, .data⟩ (by simp) rfl)) hc
      clear hI hall hnot hcl
      refine .inl ⟨(wanted_of rfl rfl (gg.trans (by rw [hc]))).trans rfl, ?_⟩
      clear gg
      unfold Oper.wp
      go_simp
      all_goals exact ⟨_, rfl, Gd.yes (by first | rfl | exact hc) rfl, ⟨_, rfl⟩⟩
    · simp at hq; subst hq
      have gg : act.tmps[36]?.getD undef = .bool (((t0 && t1) && t2)) := hI.has 31 36 rfl (hall ⟨31, .guard⟩ (by simp) rfl)
      rcases Bool.eq_false_or_eq_true (((t0 && t1) && t2)) with hc | hc
      case inr =>
        exact .inr ⟨(wanted_of rfl rfl (gg.trans (by rw [hc]))).trans rfl, Gd.no hc, ⟨_, rfl⟩⟩
      have g42 : act.tmps[42]?.getD undef = .pointer (some ⟨B', 11, none⟩) := Gd.get (hI.has 37 42 rfl (hall ⟨37, .data⟩ (by simp) rfl)) hc
      clear hI hall hnot hcl
      refine .inl ⟨(wanted_of rfl rfl (gg.trans (by rw [hc]))).trans rfl, ?_⟩
      clear gg
      unfold Oper.wp
      go_simp
      all_goals exact ⟨_, rfl, Gd.yes (by first | rfl | exact hc) rfl, ⟨_, rfl⟩⟩
    · simp at hq; subst hq
      have gg : act.tmps[36]?.getD undef = .bool (((t0 && t1) && t2)) := hI.has 31 36 rfl (hall ⟨31, .guard⟩ (by simp) rfl)
      rcases Bool.eq_false_or_eq_true (((t0 && t1) && t2)) with hc | hc
      case inr =>
        exact .inr ⟨(wanted_of rfl rfl (gg.trans (by rw [hc]))).trans rfl, Gd.no hc, ⟨_, rfl⟩⟩
      have g43 : act.tmps[43]?.getD undef = .pointer (some ⟨B', 14, none⟩) := Gd.get (hI.has 38 43 rfl (hall ⟨38, .data⟩ (by simp) rfl)) hc
      clear hI hall hnot hcl
      refine .inl ⟨(wanted_of rfl rfl (gg.trans (by rw [hc]))).trans rfl, ?_⟩
      clear gg
      unfold Oper.wp
      go_simp
      all_goals exact ⟨_, rfl, Gd.yes (by first | rfl | exact hc) rfl, ⟨_, rfl⟩⟩
    · simp at hq; subst hq
      have gg : act.tmps[36]?.getD undef = .bool (((t0 && t1) && t2)) := hI.has 31 36 rfl (hall ⟨31, .guard⟩ (by simp) rfl)
      rcases Bool.eq_false_or_eq_true (((t0 && t1) && t2)) with hc | hc
      case inr =>
        exact .inr ⟨(wanted_of rfl rfl (gg.trans (by rw [hc]))).trans rfl, Gd.no hc, ⟨_, rfl⟩⟩
      have g40 : act.tmps[40]?.getD undef = .float .f32 p3 := Gd.get (hI.has 35 40 rfl (hall ⟨35, .data⟩ (by simp) rfl)) hc
      have g44 : act.tmps[44]?.getD undef = .float .f32 q3 := Gd.get (hI.has 39 44 rfl (hall ⟨39, .data⟩ (by simp) rfl)) hc
      clear hI hall hnot hcl
      refine .inl ⟨(wanted_of rfl rfl (gg.trans (by rw [hc]))).trans rfl, ?_⟩
      clear gg
      unfold Oper.wp
      go_simp
      refine (Q3 _).out.mono ?_
      rintro e w4 ⟨rfl, rfl⟩
      exact ⟨_, rfl, Gd.yes (by first | rfl | exact hc) rfl, ⟨_, rfl⟩⟩
    · simp at hq; subst hq
      have g36 : act.tmps[36]?.getD undef = .bool ((t0 && t1) && t2) := hI.has 31 36 rfl (hall ⟨31, .data⟩ (by simp) rfl)
      have G45 := hI.has 40 45 rfl (hall ⟨40, .data⟩ (by simp) rfl)
      clear hI hall hnot hcl
      refine .inl ⟨wanted_none rfl, ?_⟩
      unfold Oper.wp
      rcases Bool.eq_false_or_eq_true (((t0 && t1) && t2)) with hc | hc
      · rw [hc] at g36
        have g45 := Gd.get G45 hc
        clear G45
        go_simp
        all_goals exact ⟨_, rfl, by first | rfl | (rw [hc]; rfl), ⟨_, rfl⟩⟩
      · rw [hc] at g36
        have g45 := Gd.un G45 hc
        clear G45
        go_simp
        all_goals exact ⟨_, rfl, by first | rfl | (rw [hc]; rfl), ⟨_, rfl⟩⟩
    · simp at hq; subst hq
      have g46 : act.tmps[46]?.getD undef = .bool (((t0 && t1) && t2) && t3) := hI.has 41 46 rfl (hall ⟨41, .data⟩ (by simp) rfl)
      clear hI hall hnot hcl
      refine .inl ⟨wanted_none rfl, ?_⟩
      unfold Oper.wp
      go_simp
      all_goals exact ⟨_, rfl, rfl, ⟨_, rfl⟩⟩
    · simp at hq; subst hq
      have gg : act.tmps[47]?.getD undef = .bool ((((t0 && t1) && t2) && t3)) := hI.has 42 47 rfl (hall ⟨42, .guard⟩ (by simp) rfl)
      rcases Bool.eq_false_or_eq_true ((((t0 && t1) && t2) && t3)) with hc | hc
      case inr =>
        exact .inr ⟨(wanted_of rfl rfl (gg.trans (by rw [hc]))).trans rfl, Gd.no hc, ⟨_, rfl⟩⟩
      have g0 : act.tmps[0]?.getD undef = .pointer (some ⟨B, 11, none⟩) := hI.kept 0 (by kernel_rfl)
      clear hI hall hnot hcl
      refine .inl ⟨(wanted_of rfl rfl (gg.trans (by rw [hc]))).trans rfl, ?_⟩
      clear gg
      unfold Oper.wp
      go_simp
      all_goals exact ⟨_, rfl, Gd.yes (by first | rfl | exact hc) rfl, ⟨_, rfl⟩⟩
    · simp at hq; subst hq
      have gg : act.tmps[47]?.getD undef = .bool ((((t0 && t1) && t2) && t3)) := hI.has 42 47 rfl (hall ⟨42, .guard⟩ (by simp) rfl)
      rcases Bool.eq_false_or_eq_true ((((t0 && t1) && t2) && t3)) with hc | hc
      case inr =>
        exact .inr ⟨(wanted_of rfl rfl (gg.trans (by rw [hc]))).trans rfl, Gd.no hc, ⟨_, rfl⟩⟩
      have g48 : act.tmps[48]?.getD undef = .pointer (some ⟨B, 11, none⟩) := Gd.get (hI.has 43 48 rfl (hall ⟨43, .data⟩ (by simp) rfl)) hc
      clear hI hall hnot hcl
      refine .inl ⟨(wanted_of rfl rfl (gg.trans (by rw [hc]))).trans rfl, ?_⟩
      clear gg
      unfold Oper.wp
      go_simp
      all_goals exact ⟨_, rfl, Gd.yes (by first | rfl | exact hc) rfl, ⟨_, rfl⟩⟩
    · simp at hq; subst hq
      have gg : act.tmps[47]?.getD undef = .bool ((((t0 && t1) && t2) && t3)) := hI.has 42 47 rfl (hall ⟨42, .guard⟩ (by simp) rfl)
      rcases Bool.eq_false_or_eq_true ((((t0 && t1) && t2) && t3)) with hc | hc
      case inr =>
        exact .inr ⟨(wanted_of rfl rfl (gg.trans (by rw [hc]))).trans rfl, Gd.no hc, ⟨_, rfl⟩⟩
      have g49 : act.tmps[49]?.getD undef = .pointer (some ⟨B, 11, none⟩) := Gd.get (hI.has 44 49 rfl (hall ⟨44, .data⟩ (by simp) rfl)) hc
      clear hI hall hnot hcl
      refine .inl ⟨(wanted_of rfl rfl (gg.trans (by rw [hc]))).trans rfl, ?_⟩
      clear gg
      unfold Oper.wp
      go_simp
      all_goals exact ⟨_, rfl, Gd.yes (by first | rfl | exact hc) rfl, ⟨_, rfl⟩⟩
    · simp at hq; subst hq
      have gg : act.tmps[47]?.getD undef = .bool ((((t0 && t1) && t2) && t3)) := hI.has 42 47 rfl (hall ⟨42, .guard⟩ (by simp) rfl)
      rcases Bool.eq_false_or_eq_true ((((t0 && t1) && t2) && t3)) with hc | hc
      case inr =>
        exact .inr ⟨(wanted_of rfl rfl (gg.trans (by rw [hc]))).trans rfl, Gd.no hc, ⟨_, rfl⟩⟩
      have g50 : act.tmps[50]?.getD undef = .pointer (some ⟨B, 15, none⟩) := Gd.get (hI.has 45 50 rfl (hall ⟨45, .data⟩ (by simp) rfl)) hc
      clear hI hall hnot hcl
      refine .inl ⟨(wanted_of rfl rfl (gg.trans (by rw [hc]))).trans rfl, ?_⟩
      clear gg
      unfold Oper.wp
      go_simp
      all_goals exact ⟨_, rfl, Gd.yes (by first | rfl | exact hc) rfl, ⟨_, rfl⟩⟩
    · simp at hq; subst hq
      have gg : act.tmps[47]?.getD undef = .bool ((((t0 && t1) && t2) && t3)) := hI.has 42 47 rfl (hall ⟨42, .guard⟩ (by simp) rfl)
      rcases Bool.eq_false_or_eq_true ((((t0 && t1) && t2) && t3)) with hc | hc
      case inr =>
        exact .inr ⟨(wanted_of rfl rfl (gg.trans (by rw [hc]))).trans rfl, Gd.no hc, ⟨_, rfl⟩⟩
      have g1 : act.tmps[1]?.getD undef = .pointer (some ⟨B', 11, none⟩) := hI.kept 1 (by kernel_rfl)
      clear hI hall hnot hcl
      refine .inl ⟨(wanted_of rfl rfl (gg.trans (by rw [hc]))).trans rfl, ?_⟩
      clear gg
      unfold Oper.wp
      go_simp
      all_goals exact ⟨_, rfl, Gd.yes (by first | rfl | exact hc) rfl, ⟨_, rfl⟩⟩
    · simp at hq; subst hq
      have gg : act.tmps[47]?.getD undef = .bool ((((t0 && t1) && t2) && t3)) := hI.has 42 47 rfl (hall ⟨42, .guard⟩ (by simp) rfl)
      rcases Bool.eq_false_or_eq_true ((((t0 && t1) && t2) && t3)) with hc | hc
      case inr =>
        exact .inr ⟨(wanted_of rfl rfl (gg.trans (by rw [hc]))).trans rfl, Gd.no hc, ⟨_, rfl⟩⟩
      have g52 : act.tmps[52]?.getD undef = .pointer (some ⟨B', 11, none⟩) := Gd.get (hI.has 47 52 rfl (hall ⟨47, .data⟩ (by simp) rfl)) hc
      clear hI hall hnot hcl
      refine .inl ⟨(wanted_of rfl rfl (gg.trans (by rw [hc]))).trans rfl, ?_⟩
      clear gg
      unfold Oper.wp
      go_simp
      all_goals exact ⟨_, rfl, Gd.yes (by first | rfl | exact hc) rfl, ⟨_, rfl⟩⟩
    · simp at hq; subst hq
      have gg : act.tmps[47]?.getD undef = .bool ((((t0 && t1) && t2) && t3)) := hI.has 42 47 rfl (hall ⟨42, .guard⟩ (by simp) rfl)
      rcases Bool.eq_false_or_eq_true ((((t0 && t1) && t2) && t3)) with hc | hc
      case inr =>
        exact .inr ⟨(wanted_of rfl rfl (gg.trans (by rw [hc]))).trans rfl, Gd.no hc, ⟨_, rfl⟩⟩
      have g53 : act.tmps[53]?.getD undef = .pointer (some ⟨B', 11, none⟩) := Gd.get (hI.has 48 53 rfl (hall ⟨48, .data⟩ (by simp) rfl)) hc
      clear hI hall hnot hcl
      refine .inl ⟨(wanted_of rfl rfl (gg.trans (by rw [hc]))).trans rfl, ?_⟩
      clear gg
      unfold Oper.wp
      go_simp
      all_goals exact ⟨_, rfl, Gd.yes (by first | rfl | exact hc) rfl, ⟨_, rfl⟩⟩
    · simp at hq; subst hq
      have gg : act.tmps[47]?.getD undef = .bool ((((t0 && t1) && t2) && t3)) := hI.has 42 47 rfl (hall ⟨42, .guard⟩ (by simp) rfl)
      rcases Bool.eq_false_or_eq_true ((((t0 && t1) && t2) && t3)) with hc | hc
      case inr =>
        exact .inr ⟨(wanted_of rfl rfl (gg.trans (by rw [hc]))).trans rfl, Gd.no hc, ⟨_, rfl⟩⟩
      have g54 : act.tmps[54]?.getD undef = .pointer (some ⟨B', 15, none⟩) := Gd.get (hI.has 49 54 rfl (hall ⟨49, .data⟩ (by simp) rfl)) hc
      clear hI hall hnot hcl
      refine .inl ⟨(wanted_of rfl rfl (gg.trans (by rw [hc]))).trans rfl, ?_⟩
      clear gg
      unfold Oper.wp
      go_simp
      all_goals exact ⟨_, rfl, Gd.yes (by first | rfl | exact hc) rfl, ⟨_, rfl⟩⟩
    · simp at hq; subst hq
      have gg : act.tmps[47]?.getD undef = .bool ((((t0 && t1) && t2) && t3)) := hI.has 42 47 rfl (hall ⟨42, .guard⟩ (by simp) rfl)
      rcases Bool.eq_false_or_eq_true ((((t0 && t1) && t2) && t3)) with hc | hc
      case inr =>
        exact .inr ⟨(wanted_of rfl rfl (gg.trans (by rw [hc]))).trans rfl, Gd.no hc, ⟨_, rfl⟩⟩
      have g51 : act.tmps[51]?.getD undef = .float .f32 p4 := Gd.get (hI.has 46 51 rfl (hall ⟨46, .data⟩ (by simp) rfl)) hc
      have g55 : act.tmps[55]?.getD undef = .float .f32 q4 := Gd.get (hI.has 50 55 rfl (hall ⟨50, .data⟩ (by simp) rfl)) hc
      clear hI hall hnot hcl
      refine .inl ⟨(wanted_of rfl rfl (gg.trans (by rw [hc]))).trans rfl, ?_⟩
      clear gg
      unfold Oper.wp
      go_simp
      refine (Q4 _).out.mono ?_
      rintro e w4 ⟨rfl, rfl⟩
      exact ⟨_, rfl, Gd.yes (by first | rfl | exact hc) rfl, ⟨_, rfl⟩⟩
    · simp at hq; subst hq
      have g47 : act.tmps[47]?.getD undef = .bool (((t0 && t1) && t2) && t3) := hI.has 42 47 rfl (hall ⟨42, .data⟩ (by simp) rfl)
      have G56 := hI.has 51 56 rfl (hall ⟨51, .data⟩ (by simp) rfl)
      clear hI hall hnot hcl
      refine .inl ⟨wanted_none rfl, ?_⟩
      unfold Oper.wp
      rcases Bool.eq_false_or_eq_true ((((t0 && t1) && t2) && t3)) with hc | hc
      · rw [hc] at g47
        have g56 := Gd.get G56 hc
        clear G56
        go_simp
        all_goals exact ⟨_, rfl, by first | rfl | (rw [hc]; rfl), ⟨_, rfl⟩⟩
      · rw [hc] at g47
        have g56 := Gd.un G56 hc
        clear G56
        go_simp
        all_goals exact ⟨_, rfl, by first | rfl | (rw [hc]; rfl), ⟨_, rfl⟩⟩
    · simp at hq; subst hq
      have g57 : act.tmps[57]?.getD undef = .bool ((((t0 && t1) && t2) && t3) && t4) := hI.has 52 57 rfl (hall ⟨52, .data⟩ (by simp) rfl)
      clear hI hall hnot hcl
      refine .inl ⟨wanted_none rfl, ?_⟩
      unfold Oper.wp
      go_simp
      all_goals exact ⟨_, rfl, rfl, ⟨_, rfl⟩⟩
    · simp at hq; subst hq
      have gg : act.tmps[58]?.getD undef = .bool (((((t0 && t1) && t2) && t3) && t4)) := hI.has 53 58 rfl (hall ⟨53, .guard⟩ (by simp) rfl)
      rcases Bool.eq_false_or_eq_true (((((t0 && t1) && t2) && t3) && t4)) with hc | hc
      case inr =>
        exact .inr ⟨(wanted_of rfl rfl (gg.trans (by rw [hc]))).trans rfl, Gd.no hc, ⟨_, rfl⟩⟩
      have g0 : act.tmps[0]?.getD undef = .pointer (some ⟨B, 11, none⟩) := hI.kept 0 (by kernel_rfl)
      clear hI hall hnot hcl
      refine .inl ⟨(wanted_of rfl rfl (gg.trans (by rw [hc]))).trans rfl, ?_⟩
      clear gg
      unfold Oper.wp
      go_simp
      all_goals exact ⟨_, rfl, Gd.yes (by first | rfl | exact hc) rfl, ⟨_, rfl⟩⟩
    · simp at hq; subst hq
      have gg : act.tmps[58]?.getD undef = .bool (((((t0 && t1) && t2) && t3) && t4)) := hI.has 53 58 rfl (hall ⟨53, .guard⟩ (by simp) rfl)
      rcases Bool.eq_false_or_eq_true (((((t0 && t1) && t2) && t3) && t4)) with hc | hc
      case inr =>
        exact .inr ⟨(wanted_of rfl rfl (gg.trans (by rw [hc]))).trans rfl, Gd.no hc, ⟨_, rfl⟩⟩
      have g59 : act.tmps[59]?.getD undef = .pointer (some ⟨B, 11, none⟩) := Gd.get (hI.has 54 59 rfl (hall ⟨54, .data⟩ (by simp) rfl)) hc
      clear hI hall hnot hcl
      refine .inl ⟨(wanted_of rfl rfl (gg.trans (by rw [hc]))).trans rfl, ?_⟩
      clear gg
      unfold Oper.wp
      go_simp
      all_goals exact ⟨_, rfl, Gd.yes (by first | rfl | exact hc) rfl, ⟨_, rfl⟩⟩
    · simp at hq; subst hq
      have gg : act.tmps[58]?.getD undef = .bool (((((t0 && t1) && t2) && t3) && t4)) := hI.has 53 58 rfl (hall ⟨53, .guard⟩ (by simp) rfl)
      rcases Bool.eq_false_or_eq_true (((((t0 && t1) && t2) && t3) && t4)) with hc | hc
      case inr =>
        exact .inr ⟨(wanted_of rfl rfl (gg.trans (by rw [hc]))).trans rfl, Gd.no hc, ⟨_, rfl⟩⟩
      have g60 : act.tmps[60]?.getD undef = .pointer (some ⟨B, 11, none⟩) := Gd.get (hI.has 55 60 rfl (hall ⟨55, .data⟩ (by simp) rfl)) hc
      clear hI hall hnot hcl
      refine .inl ⟨(wanted_of rfl rfl (gg.trans (by rw [hc]))).trans rfl, ?_⟩
      clear gg
      unfold Oper.wp
      go_simp
      all_goals exact ⟨_, rfl, Gd.yes (by first | rfl | exact hc) rfl, ⟨_, rfl⟩⟩
    · simp at hq; subst hq
      have gg : act.tmps[58]?.getD undef = .bool (((((t0 && t1) && t2) && t3) && t4)) := hI.has 53 58 rfl (hall ⟨53, .guard⟩ (by simp) rfl)
      rcases Bool.eq_false_or_eq_true (((((t0 && t1) && t2) && t3) && t4)) with hc | hc
      case inr =>
        exact .inr ⟨(wanted_of rfl rfl (gg.trans (by rw [hc]))).trans rfl, Gd.no hc, ⟨_, rfl⟩⟩
      have g61 : act.tmps[61]?.getD undef = .pointer (some ⟨B, 16, none⟩) := Gd.get (hI.has 56 61 rfl (hall ⟨56, .data⟩ (by simp) rfl)) hc
      clear hI hall hnot hcl
      refine .inl ⟨(wanted_of rfl rfl (gg.trans (by rw [hc]))).trans rfl, ?_⟩
      clear gg
      unfold Oper.wp
      go_simp
      all_goals exact ⟨_, rfl, Gd.yes (by first | rfl | exact hc) rfl, ⟨_, rfl⟩⟩
    · simp at hq; subst hq
      have gg : act.tmps[58]?.getD undef = .bool (((((t0 && t1) && t2) && t3) && t4)) := hI.has 53 58 rfl (hall ⟨53, .guard⟩ (by simp) rfl)
      rcases Bool.eq_false_or_eq_true (((((t0 && t1) && t2) && t3) && t4)) with hc | hc
      case inr =>
        exact .inr ⟨(wanted_of rfl rfl (gg.trans (by rw [hc]))).trans rfl, Gd.no hc, ⟨_, rfl⟩⟩
      have g1 : act.tmps[1]?.getD undef = .pointer (some ⟨B', 11, none⟩) := hI.kept 1 (by kernel_rfl)
      clear hI hall hnot hcl
      refine .inl ⟨(wanted_of rfl rfl (gg.trans (by rw [hc]))).trans rfl, ?_⟩
      clear gg
      unfold Oper.wp
      go_simp
      all_goals exact ⟨_, rfl, Gd.yes (by first | rfl | exact hc) rfl, ⟨_, rfl⟩⟩
    · simp at hq; subst hq
      have gg : act.tmps[58]?.getD undef = .bool (((((t0 && t1) && t2) && t3) && t4)) := hI.has 53 58 rfl (hall ⟨53, .guard⟩ (by simp) rfl)
      rcases Bool.eq_false_or_eq_true (((((t0 && t1) && t2) && t3) && t4)) with hc | hc
      case inr =>
        exact .inr ⟨(wanted_of rfl rfl (gg.trans (by rw [hc]))).trans rfl, Gd.no hc, ⟨_, rfl⟩⟩
      have g63 : act.tmps[63]?.getD undef = .pointer (some ⟨B', 11, none⟩) := Gd.get (hI.has 58 63 rfl (hall ⟨58, .data⟩ (by simp) rfl)) hc
      clear hI hall hnot hcl
      refine .inl ⟨(wanted_of rfl rfl (gg.trans (by rw [hc]))).trans rfl, ?_⟩
      clear gg
      unfold Oper.wp
      go_simp
      all_goals exact ⟨_, rfl, Gd.yes (by first | rfl | exact hc) rfl, ⟨_, rfl⟩⟩
    · simp at hq; subst hq
      have gg : act.tmps[58]?.getD undef = .bool (((((t0 && t1) && t2) && t3) && t4)) := hI.has 53 58 rfl (hall ⟨53, .guard⟩ (by simp) rfl)
      rcases Bool.eq_false_or_eq_true (((((t0 && t1) && t2) && t3) && t4)) with hc | hc
      case inr =>
        exact .inr ⟨(wanted_of rfl rfl (gg.trans (by rw [hc]))).trans rfl, Gd.no hc, ⟨_, rfl⟩⟩
      have g64 : act.tmps[64]?.getD undef = .pointer (some ⟨B', 11, none⟩) := Gd.get (hI.has 59 64 rfl (hall ⟨59, .data⟩ (by simp) rfl)) hc
      clear hI hall hnot hcl
      refine .inl ⟨(wanted_of rfl rfl (gg.trans (by rw [hc]))).trans rfl, ?_⟩
      clear gg
      unfold Oper.wp
      go_simp
      all_goals exact ⟨_, rfl, Gd.yes (by first | rfl | exact hc) rfl, ⟨_, rfl⟩⟩
    · simp at hq; subst hq
      have gg : act.tmps[58]?.getD undef = .bool (((((t0 && t1) && t2) && t3) && t4)) := hI.has 53 58 rfl (hall ⟨53, .guard⟩ (by simp) rfl)
      rcases Bool.eq_false_or_eq_true (((((t0 && t1) && t2) && t3) && t4)) with hc | hc
      case inr =>
        exact .inr ⟨(wanted_of rfl rfl (gg.trans (by rw [hc]))).trans rfl, Gd.no hc, ⟨_, rfl⟩⟩
      have g65 : act.tmps[65]?.getD undef = .pointer (some ⟨B', 16, none⟩) := Gd.get (hI.has 60 65 rfl (hall ⟨60, .data⟩ (by simp) rfl)) hc
      clear hI hall hnot hcl
      refine .inl ⟨(wanted_of rfl rfl (gg.trans (by rw [hc]))).trans rfl, ?_⟩
      clear gg
      unfold Oper.wp
      go_simp
      all_goals exact ⟨_, rfl, Gd.yes (by first | rfl | exact hc) rfl, ⟨_, rfl⟩⟩
    · simp at hq; subst hq
      have gg : act.tmps[58]?.getD undef = .bool (((((t0 && t1) && t2) && t3) && t4)) := hI.has 53 58 rfl (hall ⟨53, .guard⟩ (by simp) rfl)
      rcases Bool.eq_false_or_eq_true (((((t0 && t1) && t2) && t3) && t4)) with hc | hc
      case inr =>
        exact .inr ⟨(wanted_of rfl rfl (gg.trans (by rw [hc]))).trans rfl, Gd.no hc, ⟨_, rfl⟩⟩
      have g62 : act.tmps[62]?.getD undef = .float .f32 p5 := Gd.get (hI.has 57 62 rfl (hall ⟨57, .data⟩ (by simp) rfl)) hc
      have g66 : act.tmps[66]?.getD undef = .float .f32 q5 := Gd.get (hI.has 61 66 rfl (hall ⟨61, .data⟩ (by simp) rfl)) hc
      clear hI hall hnot hcl
      refine .inl ⟨(wanted_of rfl rfl (gg.trans (by rw [hc]))).trans rfl, ?_⟩
      clear gg
      unfold Oper.wp
      go_simp
      refine (Q5 _).out.mono ?_
      rintro e w4 ⟨rfl, rfl⟩
      exact ⟨_, rfl, Gd.yes (by first | rfl | exact hc) rfl, ⟨_, rfl⟩⟩
    · simp at hq; subst hq
      have g58 : act.tmps[58]?.getD undef = .bool ((((t0 && t1) && t2) && t3) && t4) := hI.has 53 58 rfl (hall ⟨53, .data⟩ (by simp) rfl)
      have G67 := hI.has 62 67 rfl (hall ⟨62, .data⟩ (by simp) rfl)
      clear hI hall hnot hcl
      refine .inl ⟨wanted_none rfl, ?_⟩
      unfold Oper.wp
      rcases Bool.eq_false_or_eq_true (((((t0 && t1) && t2) && t3) && t4)) with hc | hc
      · rw [hc] at g58
        have g67 := Gd.get G67 hc
        clear G67
        go_simp
        all_goals exact ⟨_, rfl, by first | rfl | (rw [hc]; rfl), ⟨_, rfl⟩⟩
      · rw [hc] at g58
        have g67 := Gd.un G67 hc
        clear G67
        go_simp
        all_goals exact ⟨_, rfl, by first | rfl | (rw [hc]; rfl), ⟨_, rfl⟩⟩
    · simp at hq; subst hq
      have g68 : act.tmps[68]?.getD undef = .bool (((((t0 && t1) && t2) && t3) && t4) && t5) := hI.has 63 68 rfl (hall ⟨63, .data⟩ (by simp) rfl)
      clear hI hall hnot hcl
      refine .inl ⟨wanted_none rfl, ?_⟩
      unfold Oper.wp
      go_simp
      all_goals exact ⟨_, rfl, rfl, ⟨_, rfl⟩⟩
    · simp at hq; subst hq
      have gg : act.tmps[69]?.getD undef = .bool ((((((t0 && t1) && t2) && t3) && t4) && t5)) := hI.has 64 69 rfl (hall ⟨64, .guard⟩ (by simp) rfl)
      rcases Bool.eq_false_or_eq_true ((((((t0 && t1) && t2) && t3) && t4) && t5)) with hc | hc
      case inr =>
        exact .inr ⟨(wanted_of rfl rfl (gg.trans (by rw [hc]))).trans rfl, Gd.no hc, ⟨_, rfl⟩⟩
      have g0 : act.tmps[0]?.getD undef = .pointer (some ⟨B, 11, none⟩) := hI.kept 0 (by kernel_rfl)
      clear hI hall hnot hcl
      refine .inl ⟨(wanted_of rfl rfl (gg.trans (by rw [hc]))).trans rfl, ?_⟩
      clear gg
      unfold Oper.wp
      go_simp
      all_goals exact ⟨_, rfl, Gd.yes (by first | rfl | exact hc) rfl, ⟨_, rfl⟩⟩
    · simp at hq; subst hq
      have gg : act.tmps[69]?.getD undef = .bool ((((((t0 && t1) && t2) && t3) && t4) && t5)) := hI.has 64 69 rfl (hall ⟨64, .guard⟩ (by simp) rfl)
      rcases Bool.eq_false_or_eq_true ((((((t0 && t1) && t2) && t3) && t4) && t5)) with hc | hc
      case inr =>
        exact .inr ⟨(wanted_of rfl rfl (gg.trans (by rw [hc]))).trans rfl, Gd.no hc, ⟨_, rfl⟩⟩
      have g70 : act.tmps[70]?.getD undef = .pointer (some ⟨B, 11, none⟩) := Gd.get (hI.has 65 70 rfl (hall ⟨65, .data⟩ (by simp) rfl)) hc
      clear hI hall hnot hcl
      refine .inl ⟨(wanted_of rfl rfl (gg.trans (by rw [hc]))).trans rfl, ?_⟩
      clear gg
      unfold Oper.wp
      go_simp
      all_goals exact ⟨_, rfl, Gd.yes (by first | rfl | exact hc) rfl, ⟨_, rfl⟩⟩
    · simp at hq; subst hq
      have gg : act.tmps[69]?.getD undef = .bool ((((((t0 && t1) && t2) && t3) && t4) && t5)) := hI.has 64 69 rfl (hall ⟨64, .guard⟩ (by simp) rfl)
      rcases Bool.eq_false_or_eq_true ((((((t0 && t1) && t2) && t3) && t4) && t5)) with hc | hc
      case inr =>
        exact .inr ⟨(wanted_of rfl rfl (gg.trans (by rw [hc]))).trans rfl, Gd.no hc, ⟨_, rfl⟩⟩
      have g71 : act.tmps[71]?.getD undef = .pointer (some ⟨B, 11, none⟩) := Gd.get (hI.has 66 71 rfl (hall ⟨66, .data⟩ (by simp) rfl)) hc
      clear hI hall hnot hcl
      refine .inl ⟨(wanted_of rfl rfl (gg.trans (by rw [hc]))).trans rfl, ?_⟩
      clear gg
      unfold Oper.wp
      go_simp
      all_goals exact ⟨_, rfl, Gd.yes (by first | rfl | exact hc) rfl, ⟨_, rfl⟩⟩
    · simp at hq; subst hq
      have gg : act.tmps[69]?.getD undef = .bool ((((((t0 && t1) && t2) && t3) && t4) && t5)) := hI.has 64 69 rfl (hall ⟨64, .guard⟩ (by simp) rfl)
      rcases Bool.eq_false_or_eq_true ((((((t0 && t1) && t2) && t3) && t4) && t5)) with hc | hc
      case inr =>
        exact .inr ⟨(wanted_of rfl rfl (gg.trans (by rw [hc]))).trans rfl, Gd.no hc, ⟨_, rfl⟩⟩
      have g72 : act.tmps[72]?.getD undef = .pointer (some ⟨B, 17, none⟩) := Gd.get (hI.has 67 72 rfl (hall ⟨67, .data⟩ (by simp) rfl)) hc
      clear hI hall hnot hcl
      refine .inl ⟨(wanted_of rfl rfl (gg.trans (by rw [hc]))).trans rfl, ?_⟩
      clear gg
      unfold Oper.wp
      go_simp
      all_goals exact ⟨_, rfl, Gd.yes (by first | rfl | exact hc) rfl, ⟨_, rfl⟩⟩
    · simp at hq; subst hq
      have gg : act.tmps[69]?.getD undef = .bool ((((((t0 && t1) && t2) && t3) && t4) && t5)) := hI.has 64 69 rfl (hall ⟨64, .guard⟩ (by simp) rfl)
      rcases Bool.eq_false_or_eq_true ((((((t0 && t1) && t2) && t3) && t4) && t5)) with hc | hc
      case inr =>
        exact .inr ⟨(wanted_of rfl rfl (gg.trans (by rw [hc]))).trans rfl, Gd.no hc, ⟨_, rfl⟩⟩
      have g1 : act.tmps[1]?.getD undef = .pointer (some ⟨B', 11, none⟩) := hI.kept 1 (by kernel_rfl)
      clear hI hall hnot hcl
      refine .inl ⟨(wanted_of rfl rfl (gg.trans (by rw [hc]))).trans rfl, ?_⟩
      clear gg
      unfold Oper.wp
      go_simp
      all_goals exact ⟨_, rfl, Gd.yes (by first | rfl | exact hc) rfl, ⟨_, rfl⟩⟩
    · simp at hq; subst hq
      have gg : act.tmps[69]?.getD undef = .bool ((((((t0 && t1) && t2) && t3) && t4) && t5)) := hI.has 64 69 rfl (hall ⟨64, .guard⟩ (by simp) rfl)
      rcases Bool.eq_false_or_eq_true ((((((t0 && t1) && t2) && t3) && t4) && t5)) with hc | hc
      case inr =>
        exact .inr ⟨(wanted_of rfl rfl (gg.trans (by rw [hc]))).trans rfl, Gd.no hc, ⟨_, rfl⟩⟩
      have g74 : act.tmps[74]?.getD undef = .pointer (some ⟨B', 11, none⟩) := Gd.get (hI.has 69 74 rfl (hall ⟨69, .data⟩ (by simp) rfl)) hc
      clear hI hall hnot hcl
      refine .inl ⟨(wanted_of rfl rfl (gg.trans (by rw [hc]))).trans rfl, ?_⟩
      clear gg
      unfold Oper.wp
      go_simp
      all_goals exact ⟨_, rfl, Gd.yes (by first | rfl | exact hc) rfl, ⟨_, rfl⟩⟩
    · simp at hq; subst hq
      have gg : act.tmps[69]?.getD undef = .bool ((((((t0 && t1) && t2) && t3) && t4) && t5)) := hI.has 64 69 rfl (hall ⟨64, .guard⟩ (by simp) rfl)
      rcases Bool.eq_false_or_eq_true ((((((t0 && t1) && t2) && t3) && t4) && t5)) with hc | hc
      case inr =>
        exact .inr ⟨(wanted_of rfl rfl (gg.trans (by rw [hc]))).trans rfl, Gd.no hc, ⟨_, rfl⟩⟩
      have g75 : act.tmps[75]?.getD undef = .pointer (some ⟨B', 11, none⟩) := Gd.get (hI.has 70 75 rfl (hall ⟨70, .data⟩ (by simp) rfl)) hc
      clear hI hall hnot hcl
      refine .inl ⟨(wanted_of rfl rfl (gg.trans (by rw [hc]))).trans rfl, ?_⟩
      clear gg
      unfold Oper.wp
      go_simp
      all_goals exact ⟨_, rfl, Gd.yes (by first | rfl | exact hc) rfl, ⟨_, rfl⟩⟩
    · simp at hq; subst hq
      have gg : act.tmps[69]?.getD undef = .bool ((((((t0 && t1) && t2) && t3) && t4) && t5)) := hI.has 64 69 rfl (hall ⟨64, .guard⟩ (by simp) rfl)
      rcases Bool.eq_false_or_eq_true ((((((t0 && t1) && t2) && t3) && t4) && t5)) with hc | hc
      case inr =>
        exact .inr ⟨(wanted_of rfl rfl (gg.trans (by rw [hc]))).trans rfl, Gd.no hc, ⟨_, rfl⟩⟩
      have g76 : act.tmps[76]?.getD undef = .pointer (some ⟨B', 17, none⟩) := Gd.get (hI.has 71 76 rfl (hall ⟨71, .data⟩ (by simp) rfl)) hc
      clear hI hall hnot hcl
      refine .inl ⟨(wanted_of rfl rfl (gg.trans (by rw [hc]))).trans rfl, ?_⟩
      clear gg
      unfold Oper.wp
      go_simp
      all_goals exact ⟨_, rfl, Gd.yes (by first | rfl | exact hc) rfl, ⟨_, rfl⟩⟩
    · simp at hq; subst hq
      have gg : act.tmps[69]?.getD undef = .bool ((((((t0 && t1) && t2) && t3) && t4) && t5)) := hI.has 64 69 rfl (hall ⟨64, .guard⟩ (by simp) rfl)
      rcases Bool.eq_false_or_eq_true ((((((t0 && t1) && t2) && t3) && t4) && t5)) with hc | hc
      case inr =>
        exact .inr ⟨(wanted_of rfl rfl (gg.trans (by rw [hc]))).trans rfl, Gd.no hc, ⟨_, rfl⟩⟩
      have g73 : act.tmps[73]?.getD undef = .float .f32 p6 := Gd.get (hI.has 68 73 rfl (hall ⟨68, .data⟩ (by simp) rfl)) hc
      have g77 : act.tmps[77]?.getD undef = .float .f32 q6 := Gd.get (hI.has 72 77 rfl (hall ⟨72, .data⟩ (by simp) rfl)) hc
      clear hI hall hnot hcl
      refine .inl ⟨(wanted_of rfl rfl (gg.trans (by rw [hc]))).trans rfl, ?_⟩
      clear gg
      unfold Oper.wp
      go_simp
      refine (Q6 _).out.mono ?_
      rintro e w4 ⟨rfl, rfl⟩
      exact ⟨_, rfl, Gd.yes (by first | rfl | exact hc) rfl, ⟨_, rfl⟩⟩
    · simp at hq; subst hq
      have g69 : act.tmps[69]?.getD undef = .bool (((((t0 && t1) && t2) && t3) && t4) && t5) := hI.has 64 69 rfl (hall ⟨64, .data⟩ (by simp) rfl)
      have G78 := hI.has 73 78 rfl (hall ⟨73, .data⟩ (by simp) rfl)
      clear hI hall hnot hcl
      refine .inl ⟨wanted_none rfl, ?_⟩
      unfold Oper.wp
      rcases Bool.eq_false_or_eq_true ((((((t0 && t1) && t2) && t3) && t4) && t5)) with hc | hc
      · rw [hc] at g69
        have g78 := Gd.get G78 hc
        clear G78
        go_simp
        all_goals exact ⟨_, rfl, by first | rfl | (rw [hc]; rfl), ⟨_, rfl⟩⟩
      · rw [hc] at g69
        have g78 := Gd.un G78 hc
        clear G78
        go_simp
        all_goals exact ⟨_, rfl, by first | rfl | (rw [hc]; rfl), ⟨_, rfl⟩⟩
    · simp at hq; subst hq
      have g79 : act.tmps[79]?.getD undef = .bool ((((((t0 && t1) && t2) && t3) && t4) && t5) && t6) := hI.has 74 79 rfl (hall ⟨74, .data⟩ (by simp) rfl)
      clear hI hall hnot hcl
      refine .inl ⟨wanted_none rfl, ?_⟩
      unfold Oper.wp
      go_simp
      all_goals exact ⟨_, rfl, rfl, ⟨_, rfl⟩⟩
    · simp at hq; subst hq
      have gg : act.tmps[80]?.getD undef = .bool (((((((t0 && t1) && t2) && t3) && t4) && t5) && t6)) := hI.has 75 80 rfl (hall ⟨75, .guard⟩ (by simp) rfl)
      rcases Bool.eq_false_or_eq_true (((((((t0 && t1) && t2) && t3) && t4) && t5) && t6)) with hc | hc
      case inr =>
        exact .inr ⟨(wanted_of rfl rfl (gg.trans (by rw [hc]))).trans rfl, Gd.no hc, ⟨_, rfl⟩⟩
      have g0 : act.tmps[0]?.getD undef = .pointer (some ⟨B, 11, none⟩) := hI.kept 0 (by kernel_rfl)
      clear hI hall hnot hcl
      refine .inl ⟨(wanted_of rfl rfl (gg.trans (by rw [hc]))).trans rfl, ?_⟩
      clear gg
      unfold Oper.wp
      go_simp
      all_goals exact ⟨_, rfl, Gd.yes (by first | rfl | exact hc) rfl, ⟨_, rfl⟩⟩
    · simp at hq; subst hq
      have gg : act.tmps[80]?.getD undef = .bool (((((((t0 && t1) && t2) && t3) && t4) && t5) && t6)) := hI.has 75 80 rfl (hall ⟨75, .guard⟩ (by simp) rfl)
      rcases Bool.eq_false_or_eq_true (((((((t0 && t1) && t2) && t3) && t4) && t5) && t6)) with hc | hc
      case inr =>
        exact .inr ⟨(wanted_of rfl rfl (gg.trans (by rw [hc]))).trans rfl, Gd.no hc, ⟨_, rfl⟩⟩
      have g81 : act.tmps[81]?.getD undef = .pointer (some ⟨B, 11, none⟩) := Gd.get (hI.has 76 81 rfl (hall ⟨76, .data⟩ (by simp) rfl)) hc
      clear hI hall hnot hcl
      refine .inl ⟨(wanted_of rfl rfl (gg.trans (by rw [hc]))).trans rfl, ?_⟩
      clear gg
      unfold Oper.wp
      go_simp
      all_goals exact ⟨_, rfl, Gd.yes (by first | rfl | exact hc) rfl, ⟨_, rfl⟩⟩
    · simp at hq; subst hq
      have gg : act.tmps[80]?.getD undef = .bool (((((((t0 && t1) && t2) && t3) && t4) && t5) && t6)) := hI.has 75 80 rfl (hall ⟨75, .guard⟩ (by simp) rfl)
      rcases Bool.eq_false_or_eq_true (((((((t0 && t1) && t2) && t3) && t4) && t5) && t6)) with hc | hc
      case inr =>
        exact .inr ⟨(wanted_of rfl rfl (gg.trans (by rw [hc]))).trans rfl, Gd.no hc, ⟨_, rfl⟩⟩
      have g82 : act.tmps[82]?.getD undef = .pointer (some ⟨B, 11, none⟩) := Gd.get (hI.has 77 82 rfl (hall ⟨77, .data⟩ (by simp) rfl)) hc
      clear hI hall hnot hcl
      refine .inl ⟨(wanted_of rfl rfl (gg.trans (by rw [hc]))).trans rfl, ?_⟩
      clear gg
      unfold Oper.wp
      go_simp
      all_goals exact ⟨_, rfl, Gd.yes (by first | rfl | exact hc) rfl, ⟨_, rfl⟩⟩
    · simp at hq; subst hq
      have gg : act.tmps[80]?.getD undef = .bool (((((((t0 && t1) && t2) && t3) && t4) && t5) && t6)) := hI.has 75 80 rfl (hall ⟨75, .guard⟩ (by simp) rfl)
      rcases Bool.eq_false_or_eq_true (((((((t0 && t1) && t2) && t3) && t4) && t5) && t6)) with hc | hc
      case inr =>
        exact .inr ⟨(wanted_of rfl rfl (gg.trans (by rw [hc]))).trans rfl, Gd.no hc, ⟨_, rfl⟩⟩
      have g83 : act.tmps[83]?.getD undef = .pointer (some ⟨B, 18, none⟩) := Gd.get (hI.has 78 83 rfl (hall ⟨78, .data⟩ (by simp) rfl)) hc
      clear hI hall hnot hcl
      refine .inl ⟨(wanted_of rfl rfl (gg.trans (by rw [hc]))).trans rfl, ?_⟩
      clear gg
      unfold Oper.wp
      go_simp
      all_goals exact ⟨_, rfl, Gd.yes (by first | rfl | exact hc) rfl, ⟨_, rfl⟩⟩
    · simp at hq; subst hq
      have gg : act.tmps[80]?.getD undef = .bool (((((((t0 && t1) && t2) && t3) && t4) && t5) && t6)) := hI.has 75 80 rfl (hall ⟨75, .guard⟩ (by simp) rfl)
      rcases Bool.eq_false_or_eq_true (((((((t0 && t1) && t2) && t3) && t4) && t5) && t6)) with hc | hc
      case inr =>
        exact .inr ⟨(wanted_of rfl rfl (gg.trans (by rw [hc]))).trans rfl, Gd.no hc, ⟨_, rfl⟩⟩
      have g1 : act.tmps[1]?.getD undef = .pointer (some ⟨B', 11, none⟩) := hI.kept 1 (by kernel_rfl)
      clear hI hall hnot hcl
      refine .inl ⟨(wanted_of rfl rfl (gg.trans (by rw [hc]))).trans rfl, ?_⟩
      clear gg
      unfold Oper.wp
      go_simp
      all_goals exact ⟨_, rfl, Gd.yes (by first | rfl | exact hc) rfl, ⟨_, rfl⟩⟩
    · simp at hq; subst hq
      have gg : act.tmps[80]?.getD undef = .bool (((((((t0 && t1) && t2) && t3) && t4) && t5) && t6)) := hI.has 75 80 rfl (hall ⟨75, .guard⟩ (by simp) rfl)
      rcases Bool.eq_false_or_eq_true (((((((t0 && t1) && t2) && t3) && t4) && t5) && t6)) with hc | hc
      case inr =>
        exact .inr ⟨(wanted_of rfl rfl (gg.trans (by rw [hc]))).trans rfl, Gd.no hc, ⟨_, rfl⟩⟩
      have g85 : act.tmps[85]?.getD undef = .pointer (some ⟨B', 11, none⟩) := Gd.get (hI.has 80 85 rfl (hall ⟨80, .data⟩ (by simp) rfl)) hc
      clear hI hall hnot hcl
      refine .inl ⟨(wanted_of rfl rfl (gg.trans (by rw [hc]))).trans rfl, ?_⟩
      clear gg
      unfold Oper.wp
      go_simp
      all_goals exact ⟨_, rfl, Gd.yes (by first | rfl | exact hc) rfl, ⟨_, rfl⟩⟩
    · simp at hq; subst hq
      have gg : act.tmps[80]?.getD undef = .bool (((((((t0 && t1) && t2) && t3) && t4) && t5) && t6)) := hI.has 75 80 rfl (hall ⟨75, .guard⟩ (by simp) rfl)
      rcases Bool.eq_false_or_eq_true (((((((t0 && t1) && t2) && t3) && t4) && t5) && t6)) with hc | hc
      case inr =>
        exact .inr ⟨(wanted_of rfl rfl (gg.trans (by rw [hc]))).trans rfl, Gd.no hc, ⟨_, rfl⟩⟩
      have g86 : act.tmps[86]?.getD undef = .pointer (some ⟨B', 11, none⟩) := Gd.get (hI.has 81 86 rfl (hall ⟨81, .data⟩ (by simp) rfl)) hc
      clear hI hall hnot hcl
      refine .inl ⟨(wanted_of rfl rfl (gg.trans (by rw [hc]))).trans rfl, ?_⟩
      clear gg
      unfold Oper.wp
      go_simp
      all_goals exact ⟨_, rfl, Gd.yes (by first | rfl | exact hc) rfl, ⟨_, rfl⟩⟩
    · simp at hq; subst hq
      have gg : act.tmps[80]?.getD undef = .bool (((((((t0 && t1) && t2) && t3) && t4) && t5) && t6)) := hI.has 75 80 rfl (hall ⟨75, .guard⟩ (by simp) rfl)
      rcases Bool.eq_false_or_eq_true (((((((t0 && t1) && t2) && t3) && t4) && t5) && t6)) with hc | hc
      case inr =>
        exact .inr ⟨(wanted_of rfl rfl (gg.trans (by rw [hc]))).trans rfl, Gd.no hc, ⟨_, rfl⟩⟩
      have g87 : act.tmps[87]?.getD undef = .pointer (some ⟨B', 18, none⟩) := Gd.get (hI.has 82 87 rfl (hall ⟨82, .data⟩ (by simp) rfl)) hc
      clear hI hall hnot hcl
      refine .inl ⟨(wanted_of rfl rfl (gg.trans (by rw [hc]))).trans rfl, ?_⟩
      clear gg
      unfold Oper.wp
      go_simp
      all_goals exact ⟨_, rfl, Gd.yes (by first | rfl | exact hc) rfl, ⟨_, rfl⟩⟩
    · simp at hq; subst hq
      have gg : act.tmps[80]?.getD undef = .bool (((((((t0 && t1) && t2) && t3) && t4) && t5) && t6)) := hI.has 75 80 rfl (hall ⟨75, .guard⟩ (by simp) rfl)
      rcases Bool.eq_false_or_eq_true (((((((t0 && t1) && t2) && t3) && t4) && t5) && t6)) with hc | hc
      case inr =>
        exact .inr ⟨(wanted_of rfl rfl (gg.trans (by rw [hc]))).trans rfl, Gd.no hc, ⟨_, rfl⟩⟩
      have g84 : act.tmps[84]?.getD undef = .float .f32 p7 := Gd.get (hI.has 79 84 rfl (hall ⟨79, .data⟩ (by simp) rfl)) hc
      have g88 : act.tmps[88]?.getD undef = .float .f32 q7 := Gd.get (hI.has 83 88 rfl (hall ⟨83, .data⟩ (by simp) rfl)) hc
      clear hI hall hnot hcl
      refine .inl ⟨(wanted_of rfl rfl (gg.trans (by rw [hc]))).trans rfl, ?_⟩
      clear gg
      unfold Oper.wp
      go_simp
      refine (Q7 _).out.mono ?_
      rintro e w4 ⟨rfl, rfl⟩
      exact ⟨_, rfl, Gd.yes (by first | rfl | exact hc) rfl, ⟨_, rfl⟩⟩
    · simp at hq; subst hq
      have g80 : act.tmps[80]?.getD undef = .bool ((((((t0 && t1) && t2) && t3) && t4) && t5) && t6) := hI.has 75 80 rfl (hall ⟨75, .data⟩ (by simp) rfl)
      have G89 := hI.has 84 89 rfl (hall ⟨84, .data⟩ (by simp) rfl)
      clear hI hall hnot hcl
      refine .inl ⟨wanted_none rfl, ?_⟩
      unfold Oper.wp
      rcases Bool.eq_false_or_eq_true (((((((t0 && t1) && t2) && t3) && t4) && t5) && t6)) with hc | hc
      · rw [hc] at g80
        have g89 := Gd.get G89 hc
        clear G89
        go_simp
        all_goals exact ⟨_, rfl, by first | rfl | (rw [hc]; rfl), ⟨_, rfl⟩⟩
      · rw [hc] at g80
        have g89 := Gd.un G89 hc
        clear G89
        go_simp
        all_goals exact ⟨_, rfl, by first | rfl | (rw [hc]; rfl), ⟨_, rfl⟩⟩
    · simp at hq; subst hq
      have g90 : act.tmps[90]?.getD undef = .bool (((((((t0 && t1) && t2) && t3) && t4) && t5) && t6) && t7) := hI.has 85 90 rfl (hall ⟨85, .data⟩ (by simp) rfl)
      clear hI hall hnot hcl
      refine .inl ⟨wanted_none rfl, ?_⟩
      unfold Oper.wp
      go_simp
      all_goals exact ⟨_, rfl, rfl, ⟨_, rfl⟩⟩
    · simp at hq
  case hend =>
    intro listed act w3 hI hall
    obtain ⟨nn, rfl⟩ := hI.cls
    have g4 : act.tmps[4]?.getD undef = .bool (((((((t0 && t1) && t2) && t3) && t4) && t5) && t6) && t7) := hI.has 86 4 rfl (hall 86 (by decide))
    have hd := hI.defers
    clear hI hall
    go_wp2
    refine bodyPost_ret (v := .bool (((((((t0 && t1) && t2) && t3) && t4) && t5) && t6) && t7)) (by simp [results, Try.results178, g4, go_sem]) (by first | rfl | exact hd) ?_
    first | refine ⟨?_, nn, rfl⟩ | refine ⟨nn, ?_, rfl⟩
    rw [HE.out]
    simp only [Bool.and_assoc]
set_option maxHeartbeats 8000000 in
set_option maxRecDepth 100000 in
theorem s_l05SameD (p0 p1 p2 p3 p4 p5 p6 p7 : Nat) (st : Int) (sp pi en : Nat) (q0 q1 q2 q3 q4 q5 q6 q7 : Nat) (st' : Int) (sp' pi' en' : Nat) (B B' : Nat) (w : World) (hk : C12D w B p0 p1 p2 p3 p4 p5 p6 p7 st sp pi en) (hk' : C12D w B' q0 q1 q2 q3 q4 q5 q6 q7 st' sp' pi' en') (hw : W8 p0 p1 p2 p3 p4 p5 p6 p7) (hw' : W8 q0 q1 q2 q3 q4 q5 q6 q7) (hv : canon .f32 sp < 4294967296 ∧ canon .f32 pi < 4294967296 ∧ canon .f32 en < 4294967296) (hv' : canon .f32 sp' < 4294967296 ∧ canon .f32 pi' < 4294967296 ∧ canon .f32 en' < 4294967296) :
    Calls Try.prog 138 #[.pointer (some ⟨B, 11, none⟩), .pointer (some ⟨B', 11, none⟩)] w fun e w' => ∃ n, e = .returned (.bool (driveE p0 p1 p2 p3 p4 p5 p6 p7 st sp pi en q0 q1 q2 q3 q4 q5 q6 q7 st' sp' pi' en')) ∧ w' = w.drewN n := by
  have QP : ∀ m, Hid (Calls Try.prog 178 #[.pointer (some ⟨B, 11, none⟩), .pointer (some ⟨B', 11, none⟩)] (w.drewN m) fun e w' => ∃ n, e = .returned (.bool (plantE p0 p1 p2 p3 p4 p5 p6 p7 q0 q1 q2 q3 q4 q5 q6 q7)) ∧ w' = (w.drewN m).drewN n) := fun m => Lib.hid (s_l05SamePlantD p0 p1 p2 p3 p4 p5 p6 p7 q0 q1 q2 q3 q4 q5 q6 q7 B B' _ (hk.1.draws m) (hk'.1.draws m) hw hw')
  clear hw hw'
  obtain ⟨-, k8, k9, k10, k11⟩ := hk
  obtain ⟨-, l8, l9, l10, l11⟩ := hk'
  obtain ⟨a0, a1, a2⟩ := hv
  obtain ⟨b0, b1, b2⟩ := hv'
  have Q0 : ∀ W, Hid (Calls Try.prog 177 #[.float .f32 sp, .float .f32 sp'] W fun e w' => e = .returned (.bool (sm sp sp')) ∧ w' = W) := fun W => Lib.hid (s_l01Same _ _ _ a0 b0)
  have Q1 : ∀ W, Hid (Calls Try.prog 177 #[.float .f32 pi, .float .f32 pi'] W fun e w' => e = .returned (.bool (sm pi pi')) ∧ w' = W) := fun W => Lib.hid (s_l01Same _ _ _ a1 b1)
  have Q2 : ∀ W, Hid (Calls Try.prog 177 #[.float .f32 en, .float .f32 en'] W fun e w' => e = .returned (.bool (sm en en')) ∧ w' = W) := fun W => Lib.hid (s_l01Same _ _ _ a2 b2)
  clear a0 a1 a2 b0 b1 b2
  have PS : Hid ((st == st') = decide (st = st')) := Lib.hid (by rfl)
  have HE : Hid (driveE p0 p1 p2 p3 p4 p5 p6 p7 st sp pi en q0 q1 q2 q3 q4 q5 q6 q7 st' sp' pi' en' = (plantE p0 p1 p2 p3 p4 p5 p6 p7 q0 q1 q2 q3 q4 q5 q6 q7 && (decide (st = st') && (sm sp sp' && (sm pi pi' && sm en en'))))) := rfl
  generalize plantE p0 p1 p2 p3 p4 p5 p6 p7 q0 q1 q2 q3 q4 q5 q6 q7 = t at QP HE
  generalize decide (st = st') = ts at PS HE
  generalize sm sp sp' = t0 at Q0 HE
  generalize sm pi pi' = t1 at Q1 HE
  generalize sm en en' = t2 at Q2 HE
  have hdd : ∀ nn j, ∃ mm, (w.drewN nn).drewN j = w.drewN mm := fun nn j => ⟨nn + j, World.drewN_drewN ..⟩
  go_enter Try.func138, Try.ntmps138
  go_wp2_with fail
  refine wp_region_inv3 (fun iq v => match iq with
    | 0 => v = .pointer (some ⟨B, 11, none⟩)
    | 1 => v = .pointer (some ⟨B, 11, none⟩)
    | 2 => v = .pointer (some ⟨B, 11, none⟩)
    | 3 => v = .pointer (some ⟨B', 11, none⟩)
    | 4 => v = .pointer (some ⟨B', 11, none⟩)
    | 5 => v = .pointer (some ⟨B', 11, none⟩)
    | 6 => v = .bool t
    | 7 => v = .bool t
    | 8 => Gd t true (v = .pointer (some ⟨B, 11, none⟩)) v
    | 9 => Gd t true (v = .pointer (some ⟨B, 11, none⟩)) v
    | 10 => Gd t true (v = .pointer (some ⟨B, 19, none⟩)) v
    | 11 => Gd t true (v = .int .i64 st) v
    | 12 => Gd t true (v = .pointer (some ⟨B', 11, none⟩)) v
    | 13 => Gd t true (v = .pointer (some ⟨B', 11, none⟩)) v
    | 14 => Gd t true (v = .pointer (some ⟨B', 19, none⟩)) v
    | 15 => Gd t true (v = .int .i64 st') v
    | 16 => Gd t true (v = .bool ts) v
    | 17 => v = .bool (t && ts)
    | 18 => v = .bool (t && ts)
    | 19 => Gd ((t && ts)) true (v = .pointer (some ⟨B, 11, none⟩)) v
    | 20 => Gd ((t && ts)) true (v = .pointer (some ⟨B, 11, none⟩)) v
    | 21 => Gd ((t && ts)) true (v = .pointer (some ⟨B, 20, none⟩)) v
    | 22 => Gd ((t && ts)) true (v = .float .f32 sp) v
    | 23 => Gd ((t && ts)) true (v = .pointer (some ⟨B', 11, none⟩)) v
    | 24 => Gd ((t && ts)) true (v = .pointer (some ⟨B', 11, none⟩)) v
    | 25 => Gd ((t && ts)) true (v = .pointer (some ⟨B', 20, none⟩)) v
    | 26 => Gd ((t && ts)) true (v = .float .f32 sp') v
    | 27 => Gd ((t && ts)) true (v = .bool t0) v
    | 28 => v = .bool ((t && ts) && t0)
    | 29 => v = .bool ((t && ts) && t0)
    | 30 => Gd (((t && ts) && t0)) true (v = .pointer (some ⟨B, 11, none⟩)) v
    | 31 => Gd (((t && ts) && t0)) true (v = .pointer (some ⟨B, 11, none⟩)) v
    | 32 => Gd (((t && ts) && t0)) true (v = .pointer (some ⟨B, 21, none⟩)) v
    | 33 => Gd (((t && ts) && t0)) true (v = .float .f32 pi) v
    | 34 => Gd (((t && ts) && t0)) true (v = .pointer (some ⟨B', 11, none⟩)) v
    | 35 => Gd (((t && ts) && t0)) true (v = .pointer (some ⟨B', 11, none⟩)) v
    | 36 => Gd (((t && ts) && t0)) true (v = .pointer (some ⟨B', 21, none⟩)) v
    | 37 => Gd (((t && ts) && t0)) true (v = .float .f32 pi') v
    | 38 => Gd (((t && ts) && t0)) true (v = .bool t1) v
    | 39 => v = .bool (((t && ts) && t0) && t1)
    | 40 => v = .bool (((t && ts) && t0) && t1)
    | 41 => Gd ((((t && ts) && t0) && t1)) true (v = .pointer (some ⟨B, 11, none⟩)) v
    | 42 => Gd ((((t && ts) && t0) && t1)) true (v = .pointer (some ⟨B, 11, none⟩)) v
    | 43 => Gd ((((t && ts) && t0) && t1)) true (v = .pointer (some ⟨B, 22, none⟩)) v
    | 44 => Gd ((((t && ts) && t0) && t1)) true (v = .float .f32 en) v
    | 45 => Gd ((((t && ts) && t0) && t1)) true (v = .pointer (some ⟨B', 11, none⟩)) v
    | 46 => Gd ((((t && ts) && t0) && t1)) true (v = .pointer (some ⟨B', 11, none⟩)) v
    | 47 => Gd ((((t && ts) && t0) && t1)) true (v = .pointer (some ⟨B', 22, none⟩)) v
    | 48 => Gd ((((t && ts) && t0) && t1)) true (v = .float .f32 en') v
    | 49 => Gd ((((t && ts) && t0) && t1)) true (v = .bool t2) v
    | 50 => v = .bool ((((t && ts) && t0) && t1) && t2)
    | 51 => v = .bool ((((t && ts) && t0) && t1) && t2)
    | _ => False) (fun _ ww => ∃ nn, ww = w.drewN nn) (by kernel_rfl) (by kernel_rfl) ⟨1, rfl⟩ ?hop ?hend
  case hop =>
    intro q o hq listed act w3 hI hnot hcl hall
    obtain ⟨nn, rfl⟩ := hI.cls
    rcases q with _ | _ | _ | _ | _ | _ | _ | _ | _ | _ | _ | _ | _ | _ | _ | _ | _ | _ | _ | _ | _ | _ | _ | _ | _ | _ | _ | _ | _ | _ | _ | _ | _ | _ | _ | _ | _ | _ | _ | _ | _ | _ | _ | _ | _ | _ | _ | _ | _ | _ | _ | _ | q
    · simp at hq; subst hq
      have g0 : act.tmps[0]?.getD undef = .pointer (some ⟨B, 11, none⟩) := hI.kept 0 (by kernel_rfl)
      clear hI hall hnot hcl
      refine .inl ⟨wanted_none rfl, ?_⟩
      unfold Oper.wp
      go_simp
      all_goals exact ⟨_, rfl, rfl, ⟨_, rfl⟩⟩
    · simp at hq; subst hq
      have g5 : act.tmps[5]?.getD undef = .pointer (some ⟨B, 11, none⟩) := hI.has 0 5 rfl (hall ⟨0, .data⟩ (by simp) rfl)
      clear hI hall hnot hcl
      refine .inl ⟨wanted_none rfl, ?_⟩
      unfold Oper.wp
      go_simp
      all_goals exact ⟨_, rfl, rfl, ⟨_, rfl⟩⟩
    · simp at hq; subst hq
      have g6 : act.tmps[6]?.getD undef = .pointer (some ⟨B, 11, none⟩) := hI.has 1 6 rfl (hall ⟨1, .data⟩ (by simp) rfl)
      clear hI hall hnot hcl
      refine .inl ⟨wanted_none rfl, ?_⟩
      unfold Oper.wp
      go_simp
      all_goals exact ⟨_, rfl, rfl, ⟨_, rfl⟩⟩
    · simp at hq; subst hq
      have g1 : act.tmps[1]?.getD undef = .pointer (some ⟨B', 11, none⟩) := hI.kept 1 (by kernel_rfl)
      clear hI hall hnot hcl
      refine .inl ⟨wanted_none rfl, ?_⟩
      unfold Oper.wp
      go_simp
      all_goals exact ⟨_, rfl, rfl, ⟨_, rfl⟩⟩
    · simp at hq; subst hq
      have g8 : act.tmps[8]?.getD undef = .pointer (some ⟨B', 11, none⟩) := hI.has 3 8 rfl (hall ⟨3, .data⟩ (by simp) rfl)
      clear hI hall hnot hcl
      refine .inl ⟨wanted_none rfl, ?_⟩
      unfold Oper.wp
      go_simp
      all_goals exact ⟨_, rfl, rfl, ⟨_, rfl⟩⟩
    · simp at hq; subst hq
      have g9 : act.tmps[9]?.getD undef = .pointer (some ⟨B', 11, none⟩) := hI.has 4 9 rfl (hall ⟨4, .data⟩ (by simp) rfl)
      clear hI hall hnot hcl
      refine .inl ⟨wanted_none rfl, ?_⟩
      unfold Oper.wp
      go_simp
      all_goals exact ⟨_, rfl, rfl, ⟨_, rfl⟩⟩
    · simp at hq; subst hq
      have g7 : act.tmps[7]?.getD undef = .pointer (some ⟨B, 11, none⟩) := hI.has 2 7 rfl (hall ⟨2, .data⟩ (by simp) rfl)
      have g10 : act.tmps[10]?.getD undef = .pointer (some ⟨B', 11, none⟩) := hI.has 5 10 rfl (hall ⟨5, .data⟩ (by simp) rfl)
      clear hI hall hnot hcl
      refine .inl ⟨wanted_none rfl, ?_⟩
      unfold Oper.wp
      go_simp
      refine (QP _).out.mono ?_
      rintro e w4 ⟨n4, rfl, rfl⟩
      exact ⟨_, rfl, rfl, hdd _ _⟩
    · simp at hq; subst hq
      have g11 : act.tmps[11]?.getD undef = .bool t := hI.has 6 11 rfl (hall ⟨6, .data⟩ (by simp) rfl)
      clear hI hall hnot hcl
      refine .inl ⟨wanted_none rfl, ?_⟩
      unfold Oper.wp
      go_simp
      all_goals exact ⟨_, rfl, rfl, ⟨_, rfl⟩⟩
    · simp at hq; subst hq
      have gg : act.tmps[12]?.getD undef = .bool t := hI.has 7 12 rfl (hall ⟨7, .guard⟩ (by simp) rfl)
      rcases Bool.eq_false_or_eq_true t with hc | hc
      case inr =>
        exact .inr ⟨(wanted_of rfl rfl (gg.trans (by rw [hc]))).trans rfl, Gd.no hc, ⟨_, rfl⟩⟩
      have g0 : act.tmps[0]?.getD undef = .pointer (some ⟨B, 11, none⟩) := hI.kept 0 (by kernel_rfl)
      clear hI hall hnot hcl
      refine .inl ⟨(wanted_of rfl rfl (gg.trans (by rw [hc]))).trans rfl, ?_⟩
      clear gg
      unfold Oper.wp
      go_simp
      all_goals exact ⟨_, rfl, Gd.yes (by first | rfl | exact hc) rfl, ⟨_, rfl⟩⟩
    · simp at hq; subst hq
      have gg : act.tmps[12]?.getD undef = .bool t := hI.has 7 12 rfl (hall ⟨7, .guard⟩ (by simp) rfl)
      rcases Bool.eq_false_or_eq_true t with hc | hc
      case inr =>
        exact .inr ⟨(wanted_of rfl rfl (gg.trans (by rw [hc]))).trans rfl, Gd.no hc, ⟨_, rfl⟩⟩
      have g13 : act.tmps[13]?.getD undef = .pointer (some ⟨B, 11, none⟩) := Gd.get (hI.has 8 13 rfl (hall ⟨8, .data⟩ (by simp) rfl)) hc
      clear hI hall hnot hcl
      refine .inl ⟨(wanted_of rfl rfl (gg.trans (by rw [hc]))).trans rfl, ?_⟩
      clear gg
      unfold Oper.wp
      go_simp
      all_goals exact ⟨_, rfl, Gd.yes (by first | rfl | exact hc) rfl, ⟨_, rfl⟩⟩
    · simp at hq; subst hq
      have gg : act.tmps[12]?.getD undef = .bool t := hI.has 7 12 rfl (hall ⟨7, .guard⟩ (by simp) rfl)
      rcases Bool.eq_false_or_eq_true t with hc | hc
      case inr =>
        exact .inr ⟨(wanted_of rfl rfl (gg.trans (by rw [hc]))).trans rfl, Gd.no hc, ⟨_, rfl⟩⟩
      have g14 : act.tmps[14]?.getD undef = .pointer (some ⟨B, 11, none⟩) := Gd.get (hI.has 9 14 rfl (hall ⟨9, .data⟩ (by simp) rfl)) hc
      clear hI hall hnot hcl
      refine .inl ⟨(wanted_of rfl rfl (gg.trans (by rw [hc]))).trans rfl, ?_⟩
      clear gg
      unfold Oper.wp
      go_simp
      all_goals exact ⟨_, rfl, Gd.yes (by first | rfl | exact hc) rfl, ⟨_, rfl⟩⟩
    · simp at hq; subst hq
      have gg : act.tmps[12]?.getD undef = .bool t := hI.has 7 12 rfl (hall ⟨7, .guard⟩ (by simp) rfl)
      rcases Bool.eq_false_or_eq_true t with hc | hc
      case inr =>
        exact .inr ⟨(wanted_of rfl rfl (gg.trans (by rw [hc]))).trans rfl, Gd.no hc, ⟨_, rfl⟩⟩
      have g15 : act.tmps[15]?.getD undef = .pointer (some ⟨B, 19, none⟩) := Gd.get (hI.has 10 15 rfl (hall ⟨10, .data⟩ (by simp) rfl)) hc
      clear hI hall hnot hcl
      refine .inl ⟨(wanted_of rfl rfl (gg.trans (by rw [hc]))).trans rfl, ?_⟩
      clear gg
      unfold Oper.wp
      go_simp
      all_goals exact ⟨_, rfl, Gd.yes (by first | rfl | exact hc) rfl, ⟨_, rfl⟩⟩
    · simp at hq; subst hq
      have gg : act.tmps[12]?.getD undef = .bool t := hI.has 7 12 rfl (hall ⟨7, .guard⟩ (by simp) rfl)
      rcases Bool.eq_false_or_eq_true t with hc | hc
      case inr =>
        exact .inr ⟨(wanted_of rfl rfl (gg.trans (by rw [hc]))).trans rfl, Gd.no hc, ⟨_, rfl⟩⟩
      have g1 : act.tmps[1]?.getD undef = .pointer (some ⟨B', 11, none⟩) := hI.kept 1 (by kernel_rfl)
      clear hI hall hnot hcl
      refine .inl ⟨(wanted_of rfl rfl (gg.trans (by rw [hc]))).trans rfl, ?_⟩
      clear gg
      unfold Oper.wp
      go_simp
      all_goals exact ⟨_, rfl, Gd.yes (by first | rfl | exact hc) rfl, ⟨_, rfl⟩⟩
    · simp at hq; subst hq
      have gg : act.tmps[12]?.getD undef = .bool t := hI.has 7 12 rfl (hall ⟨7, .guard⟩ (by simp) rfl)
      rcases Bool.eq_false_or_eq_true t with hc | hc
      case inr =>
        exact .inr ⟨(wanted_of rfl rfl (gg.trans (by rw [hc]))).trans rfl, Gd.no hc, ⟨_, rfl⟩⟩
      have g17 : act.tmps[17]?.getD undef = .pointer (some ⟨B', 11, none⟩) := Gd.get (hI.has 12 17 rfl (hall ⟨12, .data⟩ (by simp) rfl)) hc
      clear hI hall hnot hcl
      refine .inl ⟨(wanted_of rfl rfl (gg.trans (by rw [hc]))).trans rfl, ?_⟩
      clear gg
      unfold Oper.wp
      go_simp
      all_goals exact ⟨_, rfl, Gd.yes (by first | rfl | exact hc) rfl, ⟨_, rfl⟩⟩
    · simp at hq; subst hq
      have gg : act.tmps[12]?.getD undef = .bool t := hI.has 7 12 rfl (hall ⟨7, .guard⟩ (by simp) rfl)
      rcases Bool.eq_false_or_eq_true t with hc | hc
      case inr =>
        exact .inr ⟨(wanted_of rfl rfl (gg.trans (by rw [hc]))).trans rfl, Gd.no hc, ⟨_, rfl⟩⟩
      have g18 : act.tmps[18]?.getD undef = .pointer (some ⟨B', 11, none⟩) := Gd.get (hI.has 13 18 rfl (hall ⟨13, .data⟩ (by simp) rfl)) hc
      clear hI hall hnot hcl
      refine .inl ⟨(wanted_of rfl rfl (gg.trans (by rw [hc]))).trans rfl, ?_⟩
      clear gg
      unfold Oper.wp
      go_simp
      all_goals exact ⟨_, rfl, Gd.yes (by first | rfl | exact hc) rfl, ⟨_, rfl⟩⟩
    · simp at hq; subst hq
      have gg : act.tmps[12]?.getD undef = .bool t := hI.has 7 12 rfl (hall ⟨7, .guard⟩ (by simp) rfl)
      rcases Bool.eq_false_or_eq_true t with hc | hc
      case inr =>
        exact .inr ⟨(wanted_of rfl rfl (gg.trans (by rw [hc]))).trans rfl, Gd.no hc, ⟨_, rfl⟩⟩
      have g19 : act.tmps[19]?.getD undef = .pointer (some ⟨B', 19, none⟩) := Gd.get (hI.has 14 19 rfl (hall ⟨14, .data⟩ (by simp) rfl)) hc
      clear hI hall hnot hcl
      refine .inl ⟨(wanted_of rfl rfl (gg.trans (by rw [hc]))).trans rfl, ?_⟩
      clear gg
      unfold Oper.wp
      go_simp
      all_goals exact ⟨_, rfl, Gd.yes (by first | rfl | exact hc) rfl, ⟨_, rfl⟩⟩
    · simp at hq; subst hq
      have gg : act.tmps[12]?.getD undef = .bool t := hI.has 7 12 rfl (hall ⟨7, .guard⟩ (by simp) rfl)
      rcases Bool.eq_false_or_eq_true t with hc | hc
      case inr =>
        exact .inr ⟨(wanted_of rfl rfl (gg.trans (by rw [hc]))).trans rfl, Gd.no hc, ⟨_, rfl⟩⟩
      have g16 : act.tmps[16]?.getD undef = .int .i64 st := Gd.get (hI.has 11 16 rfl (hall ⟨11, .data⟩ (by simp) rfl)) hc
      have g20 : act.tmps[20]?.getD undef = .int .i64 st' := Gd.get (hI.has 15 20 rfl (hall ⟨15, .data⟩ (by simp) rfl)) hc
      clear hI hall hnot hcl
      refine .inl ⟨(wanted_of rfl rfl (gg.trans (by rw [hc]))).trans rfl, ?_⟩
      clear gg
      unfold Oper.wp
      go_simp
      rw [PS.out]
      exact ⟨_, rfl, Gd.yes (by first | rfl | exact hc) rfl, ⟨_, rfl⟩⟩
    · simp at hq; subst hq
      have g12 : act.tmps[12]?.getD undef = .bool t := hI.has 7 12 rfl (hall ⟨7, .data⟩ (by simp) rfl)
      have G21 := hI.has 16 21 rfl (hall ⟨16, .data⟩ (by simp) rfl)
      clear hI hall hnot hcl
      refine .inl ⟨wanted_none rfl, ?_⟩
      unfold Oper.wp
      rcases Bool.eq_false_or_eq_true t with hc | hc
      · rw [hc] at g12
        have g21 := Gd.get G21 hc
        clear G21
        go_simp
        all_goals exact ⟨_, rfl, by first | rfl | (rw [hc]; rfl), ⟨_, rfl⟩⟩
      · rw [hc] at g12
        have g21 := Gd.un G21 hc
        clear G21
        go_simp
        all_goals exact ⟨_, rfl, by first | rfl | (rw [hc]; rfl), ⟨_, rfl⟩⟩
    · simp at hq; subst hq
      have g22 : act.tmps[22]?.getD undef = .bool (t && ts) := hI.has 17 22 rfl (hall ⟨17, .data⟩ (by simp) rfl)
      clear hI hall hnot hcl
      refine .inl ⟨wanted_none rfl, ?_⟩
      unfold Oper.wp
      go_simp
      all_goals exact ⟨_, rfl, rfl, ⟨_, rfl⟩⟩
    · simp at hq; subst hq
      have gg : act.tmps[23]?.getD undef = .bool ((t && ts)) := hI.has 18 23 rfl (hall ⟨18, .guard⟩ (by simp) rfl)
      rcases Bool.eq_false_or_eq_true ((t && ts)) with hc | hc
      case inr =>
        exact .inr ⟨(wanted_of rfl rfl (gg.trans (by rw [hc]))).trans rfl, Gd.no hc, ⟨_, rfl⟩⟩
      have g0 : act.tmps[0]?.getD undef = .pointer (some ⟨B, 11, none⟩) := hI.kept 0 (by kernel_rfl)
      clear hI hall hnot hcl
      refine .inl ⟨(wanted_of rfl rfl (gg.trans (by rw [hc]))).trans rfl, ?_⟩
      clear gg
      unfold Oper.wp
      go_simp
      all_goals exact ⟨_, rfl, Gd.yes (by first | rfl | exact hc) rfl, ⟨_, rfl⟩⟩
    · simp at hq; subst hq
      have gg : act.tmps[23]?.getD undef = .bool ((t && ts)) := hI.has 18 23 rfl (hall ⟨18, .guard⟩ (by simp) rfl)
      rcases Bool.eq_false_or_eq_true ((t && ts)) with hc | hc
      case inr =>
        exact .inr ⟨(wanted_of rfl rfl (gg.trans (by rw [hc]))).trans rfl, Gd.no hc, ⟨_, rfl⟩⟩
      have g24 : act.tmps[24]?.getD undef = .pointer (some ⟨B, 11, none⟩) := Gd.get (hI.has 19 24 rfl (hall ⟨19, .data⟩ (by simp) rfl)) hc
      clear hI hall hnot hcl
      refine .inl ⟨(wanted_of rfl rfl (gg.trans (by rw [hc]))).trans rfl, ?_⟩
      clear gg
      unfold Oper.wp
      go_simp
      all_goals exact ⟨_, rfl, Gd.yes (by first | rfl | exact hc) rfl, ⟨_, rfl⟩⟩
    · simp at hq; subst hq
      have gg : act.tmps[23]?.getD undef = .bool ((t && ts)) := hI.has 18 23 rfl (hall ⟨18, .guard⟩ (by simp) rfl)
      rcases Bool.eq_false_or_eq_true ((t && ts)) with hc | hc
      case inr =>
        exact .inr ⟨(wanted_of rfl rfl (gg.trans (by rw [hc]))).trans rfl, Gd.no hc, ⟨_, rfl⟩⟩
      have g25 : act.tmps[25]?.getD undef = .pointer (some ⟨B, 11, none⟩) := Gd.get (hI.has 20 25 rfl (hall ⟨20, .data⟩ (by simp) rfl)) hc
      clear hI hall hnot hcl
      refine .inl ⟨(wanted_of rfl rfl (gg.trans (by rw [hc]))).trans rfl, ?_⟩
      clear gg
      unfold Oper.wp
      go_simp
      all_goals exact ⟨_, rfl, Gd.yes (by first | rfl | exact hc) rfl, ⟨_, rfl⟩⟩
    · simp at hq; subst hq
      have gg : act.tmps[23]?.getD undef = .bool ((t && ts)) := hI.has 18 23 rfl (hall ⟨18, .guard⟩ (by simp) rfl)
      rcases Bool.eq_false_or_eq_true ((t && ts)) with hc | hc
      case inr =>
        exact .inr ⟨(wanted_of rfl rfl (gg.trans (by rw [hc]))).trans rfl, Gd.no hc, ⟨_, rfl⟩⟩
      have g26 : act.tmps[26]?.getD undef = .pointer (some ⟨B, 20, none⟩) := Gd.get (hI.has 21 26 rfl (hall ⟨21, .data⟩ (by simp) rfl)) hc
      clear hI hall hnot hcl
      refine .inl ⟨(wanted_of rfl rfl (gg.trans (by rw [hc]))).trans rfl, ?_⟩
      clear gg
      unfold Oper.wp
      go_simp
      all_goals exact ⟨_, rfl, Gd.yes (by first | rfl | exact hc) rfl, ⟨_, rfl⟩⟩
    · simp at hq; subst hq
      have gg : act.tmps[23]?.getD undef = .bool ((t && ts)) := hI.has 18 23 rfl (hall ⟨18, .guard⟩ (by simp) rfl)
      rcases Bool.eq_false_or_eq_true ((t && ts)) with hc | hc
      case inr =>
        exact .inr ⟨(wanted_of rfl rfl (gg.trans (by rw [hc]))).trans rfl, Gd.no hc, ⟨_, rfl⟩⟩
      have g1 : act.tmps[1]?.getD undef = .pointer (some ⟨B', 11, none⟩) := hI.kept 1 (by kernel_rfl)
      clear hI hall hnot hcl
      refine .inl ⟨(wanted_of rfl rfl (gg.trans (by rw [hc]))).trans rfl, ?_⟩
      clear gg
      unfold Oper.wp
      go_simp
      all_goals exact ⟨_, rfl, Gd.yes (by first | rfl | exact hc) rfl, ⟨_, rfl⟩⟩
    · simp at hq; subst hq
      have gg : act.tmps[23]?.getD undef = .bool ((t && ts)) := hI.has 18 23 rfl (hall ⟨18, .guard⟩ (by simp) rfl)
      rcases Bool.eq_false_or_eq_true ((t && ts)) with hc | hc
      case inr =>
        exact .inr ⟨(wanted_of rfl rfl (gg.trans (by rw [hc]))).trans rfl, Gd.no hc, ⟨_, rfl⟩⟩
      have g28 : act.tmps[28]?.getD undef = .pointer (some ⟨B', 11, none⟩) := Gd.get (hI.has 23 28 rfl (hall ⟨23, .data⟩ (by simp) rfl)) hc
      clear hI hall hnot hcl
      refine .inl ⟨(wanted_of rfl rfl (gg.trans (by rw [hc]))).trans rfl, ?_⟩
      clear gg
      unfold Oper.wp
      go_simp
      all_goals exact ⟨_, rfl, Gd.yes (by first | rfl | exact hc) rfl, ⟨_, rfl⟩⟩
    · simp at hq; subst hq
      have gg : act.tmps[23]?.getD undef = .bool ((t && ts)) := hI.has 18 23 rfl (hall ⟨18, .guard⟩ (by simp) rfl)
      rcases Bool.eq_false_or_eq_true ((t && ts)) with hc | hc
      case inr =>
        exact .inr ⟨(wanted_of rfl rfl (gg.trans (by rw [hc]))).trans rfl, Gd.no hc, ⟨_, rfl⟩⟩
      have g29 : act.tmps[29]?.getD undef = .pointer (some ⟨B', 11, none⟩) := Gd.get (hI.has 24 29 rfl (hall ⟨24, .data⟩ (by simp) rfl)) hc
      clear hI hall hnot hcl
      refine .inl ⟨(wanted_of rfl rfl (gg.trans (by rw [hc]))).trans rfl, ?_⟩
      clear gg
      unfold Oper.wp
      go_simp
      all_goals exact ⟨_, rfl, Gd.yes (by first | rfl | exact hc) rfl, ⟨_, rfl⟩⟩
    · simp at hq; subst hq
      have gg : act.tmps[23]?.getD undef = .bool ((t && ts)) := hI.has 18 23 rfl (hall ⟨18, .guard⟩ (by simp) rfl)
      rcases Bool.eq_false_or_eq_true ((t && ts)) with hc | hc
      case inr =>
        exact .inr ⟨(wanted_of rfl rfl (gg.trans (by rw [hc]))).trans rfl, Gd.no hc, ⟨_, rfl⟩⟩
      have g30 : act.tmps[30]?.getD undef = .pointer (some ⟨B', 20, none⟩) := Gd.get (hI.has 25 30 rfl (hall ⟨25, .data⟩ (by simp) rfl)) hc
      clear hI hall hnot hcl
      refine .inl ⟨(wanted_of rfl rfl (gg.trans (by rw [hc]))).trans rfl, ?_⟩
      clear gg
      unfold Oper.wp
      go_simp
      all_goals exact ⟨_, rfl, Gd.yes (by first | rfl | exact hc) rfl, ⟨_, rfl⟩⟩
    · simp at hq; subst hq
      have gg : act.tmps[23]?.getD undef = .bool ((t && ts)) := hI.has 18 23 rfl (hall ⟨18, .guard⟩ (by simp) rfl)
      rcases Bool.eq_false_or_eq_true ((t && ts)) with hc | hc
      case inr =>
        exact .inr ⟨(wanted_of rfl rfl (gg.trans (by rw [hc]))).trans rfl, Gd.no hc, ⟨_, rfl⟩⟩
      have g27 : act.tmps[27]?.getD undef = .float .f32 sp := Gd.get (hI.has 22 27 rfl (hall ⟨22, .data⟩ (by simp) rfl)) hc
      have g31 : act.tmps[31]?.getD undef = .float .f32 sp' := Gd.get (hI.has 26 31 rfl (hall ⟨26, .data⟩ (by simp) rfl)) hc
      clear hI hall hnot hcl
      refine .inl ⟨(wanted_of rfl rfl (gg.trans (by rw [hc]))).trans rfl, ?_⟩
      clear gg
      unfold Oper.wp
      go_simp
      refine (Q0 _).out.mono ?_
      rintro e w4 ⟨rfl, rfl⟩
      exact ⟨_, rfl, Gd.yes (by first | rfl | exact hc) rfl, ⟨_, rfl⟩⟩
    · simp at hq; subst hq
      have g23 : act.tmps[23]?.getD undef = .bool (t && ts) := hI.has 18 23 rfl (hall ⟨18, .data⟩ (by simp) rfl)
      have G32 := hI.has 27 32 rfl (hall ⟨27, .data⟩ (by simp) rfl)
      clear hI hall hnot hcl
      refine .inl ⟨wanted_none rfl, ?_⟩
      unfold Oper.wp
      rcases Bool.eq_false_or_eq_true ((t && ts)) with hc | hc
      · rw [hc] at g23
        have g32 := Gd.get G32 hc
        clear G32
        go_simp
        all_goals exact ⟨_, rfl, by first | rfl | (rw [hc]; rfl), ⟨_, rfl⟩⟩
      · rw [hc] at g23
        have g32 := Gd.un G32 hc
        clear G32
        go_simp
        all_goals exact ⟨_, rfl, by first | rfl | (rw [hc]; rfl), ⟨_, rfl⟩⟩
    · simp at hq; subst hq
      have g33 : act.tmps[33]?.getD undef = .bool ((t && ts) && t0) := hI.has 28 33 rfl (hall ⟨28, .data⟩ (by simp) rfl)
      clear hI hall hnot hcl
      refine .inl ⟨wanted_none rfl, ?_⟩
      unfold Oper.wp
      go_simp
      all_goals exact ⟨_, rfl, rfl, ⟨_, rfl⟩⟩
    · simp at hq; subst hq
      have gg : act.tmps[34]?.getD undef = .bool (((t && ts) && t0)) := hI.has 29 34 rfl (hall ⟨29, .guard⟩ (by simp) rfl)
      rcases Bool.eq_false_or_eq_true (((t && ts) && t0)) with hc | hc
      case inr =>
        exact .inr ⟨(wanted_of rfl rfl (gg.trans (by rw [hc]))).trans rfl, Gd.no hc, ⟨_, rfl⟩⟩
      have g0 : act.tmps[0]?.getD undef = .pointer (some ⟨B, 11, none⟩) := hI.kept 0 (by kernel_rfl)
      clear hI hall hnot hcl
      refine .inl ⟨(wanted_of rfl rfl (gg.trans (by rw [hc]))).trans rfl, ?_⟩
      clear gg
      unfold Oper.wp
      go_simp
      all_goals exact ⟨_, rfl, Gd.yes (by first | rfl | exact hc) rfl, ⟨_, rfl⟩⟩
    · simp at hq; subst hq
      have gg : act.tmps[34]?.getD undef = .bool (((t && ts) && t0)) := hI.has 29 34 rfl (hall ⟨29, .guard⟩ (by simp) rfl)
      rcases Bool.eq_false_or_eq_true (((t && ts) && t0)) with hc | hc
      case inr =>
        exact .inr ⟨(wanted_of rfl rfl (gg.trans (by rw [hc]))).trans rfl, Gd.no hc, ⟨_, rfl⟩⟩
      have g35 : act.tmps[35]?.getD undef = .pointer (some ⟨B, 11, none⟩) := Gd.get (hI.has 30 35 rfl (hall ⟨30, .data⟩ (by simp) rfl)) hc
      clear hI hall hnot hcl
      refine .inl ⟨(wanted_of rfl rfl (gg.trans (by rw [hc]))).trans rfl, ?_⟩
      clear gg
      unfold Oper.wp
      go_simp
      all_goals exact ⟨_, rfl, Gd.yes (by first | rfl | exact hc) rfl, ⟨_, rfl⟩⟩
    · simp at hq; subst hq
      have gg : act.tmps[34]?.getD undef = .bool (((t && ts) && t0)) := hI.has 29 34 rfl (hall ⟨29, .guard⟩ (by simp) rfl)
      rcases Bool.eq_false_or_eq_true (((t && ts) && t0)) with hc | hc
      case inr =>
        exact .inr ⟨(wanted_of rfl rfl (gg.trans (by rw [hc]))).trans rfl, Gd.no hc, ⟨_, rfl⟩⟩
      have g36 : act.tmps[36]?.getD undef = .pointer (some ⟨B, 11, none⟩) := Gd.get (hI.has 31 36 rfl (hall ⟨31, .data⟩ (by simp) rfl)) hc
      clear hI hall hnot hcl
      refine .inl ⟨(wanted_of rfl rfl (gg.trans (by rw [hc]))).trans rfl, ?_⟩
      clear gg
      unfold Oper.wp
      go_simp
      all_goals exact ⟨_, rfl, Gd.yes (by first | rfl | exact hc) rfl, ⟨_, rfl⟩⟩
    · simp at hq; subst hq
      have gg : act.tmps[34]?.getD undef = .bool (((t && ts) && t0)) := hI.has 29 34 rfl (hall ⟨29, .guard⟩ (by simp) rfl)
      rcases Bool.eq_false_or_eq_true (((t && ts) && t0)) with hc | hc
      case inr =>
        exact .inr ⟨(wanted_of rfl rfl (gg.trans (by rw [hc]))).trans rfl, Gd.no hc, ⟨_, rfl⟩⟩
      have g37 : act.tmps[37]?.getD undef = .pointer (some ⟨B, 21, none⟩) := Gd.get (hI.has 32 37 rfl (hall ⟨32, .data⟩ (by simp) rfl)) hc
      clear hI hall hnot hcl
      refine .inl ⟨(wanted_of rfl rfl (gg.trans (by rw [hc]))).trans rfl, ?_⟩
      clear gg
      unfold Oper.wp
      go_simp
      all_goals exact ⟨_, rfl, Gd.yes (by first | rfl | exact hc) rfl, ⟨_, rfl⟩⟩
    · simp at hq; subst hq
      have gg : act.tmps[34]?.getD undef = .bool (((t && ts) && t0)) := hI.has 29 34 rfl (hall ⟨29, .guard⟩ (by simp) rfl)
      rcases Bool.eq_false_or_eq_true (((t && ts) && t0)) with hc | hc
      case inr =>
        exact .inr ⟨(wanted_of rfl rfl (gg.trans (by rw [hc]))).trans rfl, Gd.no hc, ⟨_, rfl⟩⟩
      have g1 : act.tmps[1]?.getD undef = .pointer (some ⟨B', 11, none⟩) := hI.kept 1 (by kernel_rfl)
      clear hI hall hnot hcl
      refine .inl ⟨(wanted_of rfl rfl (gg.trans (by rw [hc]))).trans rfl, ?_⟩
      clear gg
      unfold Oper.wp
      go_simp
      all_goals exact ⟨_, rfl, Gd.yes (by first | rfl | exact hc) rfl, ⟨_, rfl⟩⟩
    · simp at hq; subst hq
      have gg : act.tmps[34]?.getD undef = .bool (((t && ts) && t0)) := hI.has 29 34 rfl (hall ⟨29, .guard⟩ (by simp) rfl)
      rcases Bool.eq_false_or_eq_true (((t && ts) && t0)) with hc | hc
      case inr =>
        exact .inr ⟨(wanted_of rfl rfl (gg.trans (by rw [hc]))).trans rfl, Gd.no hc, ⟨_, rfl⟩⟩
      have g39 : act.tmps[39]?.getD undef = .pointer (some ⟨B', 11, none⟩) := Gd.get (hI.has 34 39 rfl (hall ⟨34, .data⟩ (by simp) rfl)) hc
      clear hI hall hnot hcl
      refine .inl ⟨(wanted_of rfl rfl (gg.trans (by rw [hc]))).trans rfl, ?_⟩
      clear gg
      unfold Oper.wp
      go_simp
      all_goals exact ⟨_, rfl, Gd.yes (by first | rfl | exact hc) rfl, ⟨_, rfl⟩⟩
    · simp at hq; subst hq
      have gg : act.tmps[34]?.getD undef = .bool (((t && ts) && t0)) := hI.has 29 34 rfl (hall ⟨29, .guard⟩ (by simp) rfl)
      rcases Bool.eq_false_or_eq_true (((t && ts) && t0)) with hc | hc
      case inr =>
        exact .inr ⟨(wanted_of rfl rfl (gg.trans (by rw [hc]))).trans rfl, Gd.no hc, ⟨_, rfl⟩⟩
      have g40 : act.tmps[40]?.getD undef = .pointer (some ⟨B', 11, none⟩) := Gd.get (hI.has 35 40 rfl (hall ⟨35, .data⟩ (by simp) rfl)) hc
      clear hI hall hnot hcl
      refine .inl ⟨(wanted_of rfl rfl (gg.trans (by rw [hc]))).trans rfl, ?_⟩
      clear gg
      unfold Oper.wp
      go_simp
      all_goals exact ⟨_, rfl, Gd.yes (by first | rfl | exact hc) rfl, ⟨_, rfl⟩⟩
    · simp at hq; subst hq
      have gg : act.tmps[34]?.getD undef = .bool (((t && ts) && t0)) := hI.has 29 34 rfl (hall ⟨29, .guard⟩ (by simp) rfl)
      rcases Bool.eq_false_or_eq_true (((t && ts) && t0)) with hc | hc
      case inr =>
        exact .inr ⟨(wanted_of rfl rfl (gg.trans (by rw [hc]))).trans rfl, Gd.no hc, ⟨_, rfl⟩⟩
      have g41 : act.tmps[41]?.getD undef = .pointer (some ⟨B', 21, none⟩) := Gd.get (hI.has 36 41 rfl (hall ⟨36, .data⟩ (by simp) rfl)) hc
      clear hI hall hnot hcl
      refine .inl ⟨(wanted_of rfl rfl (gg.trans (by rw [hc]))).trans rfl, ?_⟩
      clear gg
      unfold Oper.wp
      go_simp
      all_goals exact ⟨_, rfl, Gd.yes (by first | rfl | exact hc) rfl, ⟨_, rfl⟩⟩
    · simp at hq; subst hq
      have gg : act.tmps[34]?.getD undef = .bool (((t && ts) && t0)) := hI.has 29 34 rfl (hall ⟨29, .guard⟩ (by simp) rfl)
      rcases Bool.eq_false_or_eq_true (((t && ts) && t0)) with hc | hc
      case inr =>
        exact .inr ⟨(wanted_of rfl rfl (gg.trans (by rw [hc]))).trans rfl, Gd.no hc, ⟨_, rfl⟩⟩
      have g38 : act.tmps[38]?.getD undef = .float .f32 pi := Gd.get (hI.has 33 38 rfl (hall ⟨33, .data⟩ (by simp) rfl)) hc
      have g42 : act.tmps[42]?.getD undef = .float .f32 pi' := Gd.get (hI.has 37 42 rfl (hall ⟨37, .data⟩ (by simp) rfl)) hc
      clear hI hall hnot hcl
      refine .inl ⟨(wanted_of rfl rfl (gg.trans (by rw [hc]))).trans rfl, ?_⟩
      clear gg
      unfold Oper.wp
      go_simp
      refine (Q1 _).out.mono ?_
      rintro e w4 ⟨rfl, rfl⟩
      exact ⟨_, rfl, Gd.yes (by first | rfl | exact hc) rfl, ⟨_, rfl⟩⟩
    · simp at hq; subst hq
      have g34 : act.tmps[34]?.getD undef = .bool ((t && ts) && t0) := hI.has 29 34 rfl (hall ⟨29, .data⟩ (by simp) rfl)
      have G43 := hI.has 38 43 rfl (hall ⟨38, .data⟩ (by simp) rfl)
      clear hI hall hnot hcl
      refine .inl ⟨wanted_none rfl, ?_⟩
      unfold Oper.wp
      rcases Bool.eq_false_or_eq_true (((t && ts) && t0)) with hc | hc
      · rw [hc] at g34
        have g43 := Gd.get G43 hc
        clear G43
        go_simp
        all_goals exact ⟨_, rfl, by first | rfl | (rw [hc]; rfl), ⟨_, rfl⟩⟩
      · rw [hc] at g34
        have g43 := Gd.un G43 hc
        clear G43
        go_simp
        all_goals exact ⟨_, rfl, by first | rfl | (rw [hc]; rfl), ⟨_, rfl⟩⟩
    · simp at hq; subst hq
      have g44 : act.tmps[44]?.getD undef = .bool (((t && ts) && t0) && t1) := hI.has 39 44 rfl (hall ⟨39, .data⟩ (by simp) rfl)
      clear hI hall hnot hcl
      refine .inl ⟨wanted_none rfl, ?_⟩
      unfold Oper.wp
      go_simp
      all_goals exact ⟨_, rfl, rfl, ⟨_, rfl⟩⟩
    · simp at hq; subst hq
      have gg : act.tmps[45]?.getD undef = .bool ((((t && ts) && t0) && t1)) := hI.has 40 45 rfl (hall ⟨40, .guard⟩ (by simp) rfl)
      rcases Bool.eq_false_or_eq_true ((((t && ts) && t0) && t1)) with hc | hc
      case inr =>
        exact .inr ⟨(wanted_of rfl rfl (gg.trans (by rw [hc]))).trans rfl, Gd.no hc, ⟨_, rfl⟩⟩
      have g0 : act.tmps[0]?.getD undef = .pointer (some ⟨B, 11, none⟩) := hI.kept 0 (by kernel_rfl)
      clear hI hall hnot hcl
      refine .inl ⟨(wanted_of rfl rfl (gg.trans (by rw [hc]))).trans rfl, ?_⟩
      clear gg
      unfold Oper.wp
      go_simp
      all_goals exact ⟨_, rfl, Gd.yes (by first | rfl | exact hc) rfl, ⟨_, rfl⟩⟩
    · simp at hq; subst hq
      have gg : act.tmps[45]?.getD undef = .bool ((((t && ts) && t0) && t1)) := hI.has 40 45 rfl (hall ⟨40, .guard⟩ (by simp) rfl)
      rcases Bool.eq_false_or_eq_true ((((t && ts) && t0) && t1)) with hc | hc
      case inr =>
        exact .inr ⟨(wanted_of rfl rfl (gg.trans (by rw [hc]))).trans rfl, Gd.no hc, ⟨_, rfl⟩⟩
      have g46 : act.tmps[46]?.getD undef = .pointer (some ⟨B, 11, none⟩) := Gd.get (hI.has 41 46 rfl (hall ⟨41, .data⟩ (by simp) rfl)) hc
      clear hI hall hnot hcl
      refine .inl ⟨(wanted_of rfl rfl (gg.trans (by rw [hc]))).trans rfl, ?_⟩
      clear gg
      unfold Oper.wp
      go_simp
      all_goals exact ⟨_, rfl, Gd.yes (by first | rfl | exact hc) rfl, ⟨_, rfl⟩⟩
    · simp at hq; subst hq
      have gg : act.tmps[45]?.getD undef = .bool ((((t && ts) && t0) && t1)) := hI.has 40 45 rfl (hall ⟨40, .guard⟩ (by simp) rfl)
      rcases Bool.eq_false_or_eq_true ((((t && ts) && t0) && t1)) with hc | hc
      case inr =>
        exact .inr ⟨(wanted_of rfl rfl (gg.trans (by rw [hc]))).trans rfl, Gd.no hc, ⟨_, rfl⟩⟩
      have g47 : act.tmps[47]?.getD undef = .pointer (some ⟨B, 11, none⟩) := Gd.get (hI.has 42 47 rfl (hall ⟨42, .data⟩ (by simp) rfl)) hc
      clear hI hall hnot hcl
      refine .inl ⟨(wanted_of rfl rfl (gg.trans (by rw [hc]))).trans rfl, ?_⟩
      clear gg
      unfold Oper.wp
      go_simp
      all_goals exact ⟨_, rfl, Gd.yes (by first | rfl | exact hc) rfl, ⟨_, rfl⟩⟩
    · simp at hq; subst hq
      have gg : act.tmps[45]?.getD undef = .bool ((((t && ts) && t0) && t1)) := hI.has 40 45 rfl (hall ⟨40, .guard⟩ (by simp) rfl)
      rcases Bool.eq_false_or_eq_true ((((t && ts) && t0) && t1)) with hc | hc
      case inr =>
        exact .inr ⟨(wanted_of rfl rfl (gg.trans (by rw [hc]))).trans rfl, Gd.no hc, ⟨_, rfl⟩⟩
      have g48 : act.tmps[48]?.getD undef = .pointer (some ⟨B, 22, none⟩) := Gd.get (hI.has 43 48 rfl (hall ⟨43, .data⟩ (by simp) rfl)) hc
      clear hI hall hnot hcl
      refine .inl ⟨(wanted_of rfl rfl (gg.trans (by rw [hc]))).trans rfl, ?_⟩
      clear gg
      unfold Oper.wp
      go_simp
      all_goals exact ⟨_, rfl, Gd.yes (by first | rfl | exact hc) rfl, ⟨_, rfl⟩⟩
    · simp at hq; subst hq
      have gg : act.tmps[45]?.getD undef = .bool ((((t && ts) && t0) && t1)) := hI.has 40 45 rfl (hall ⟨40, .guard⟩ (by simp) rfl)
      rcases Bool.eq_false_or_eq_true ((((t && ts) && t0) && t1)) with hc | hc
      case inr =>
        exact .inr ⟨(wanted_of rfl rfl (gg.trans (by rw [hc]))).trans rfl, Gd.no hc, ⟨_, rfl⟩⟩
      have g1 : act.tmps[1]?.getD undef = .pointer (some ⟨B', 11, none⟩) := hI.kept 1 (by kernel_rfl)
      clear hI hall hnot hcl
      refine .inl ⟨(wanted_of rfl rfl (gg.trans (by rw [hc]))).trans rfl, ?_⟩
      clear gg
      unfold Oper.wp
      go_simp
      all_goals exact ⟨_, rfl, Gd.yes (by first | rfl | exact hc) rfl, ⟨_, rfl⟩⟩
    · simp at hq; subst hq
      have gg : act.tmps[45]?.getD undef = .bool ((((t && ts) && t0) && t1)) := hI.has 40 45 rfl (hall ⟨40, .guard⟩ (by simp) rfl)
      rcases Bool.eq_false_or_eq_true ((((t && ts) && t0) && t1)) with hc | hc
      case inr =>
        exact .inr ⟨(wanted_of rfl rfl (gg.trans (by rw [hc]))).trans rfl, Gd.no hc, ⟨_, rfl⟩⟩
      have g50 : act.tmps[50]?.getD undef = .pointer (some ⟨B', 11, none⟩) := Gd.get (hI.has 45 50 rfl (hall ⟨45, .data⟩ (by simp) rfl)) hc
      clear hI hall hnot hcl
      refine .inl ⟨(wanted_of rfl rfl (gg.trans (by rw [hc]))).trans rfl, ?_⟩
      clear gg
      unfold Oper.wp
      go_simp
      all_goals exact ⟨_, rfl, Gd.yes (by first | rfl | exact hc) rfl, ⟨_, rfl⟩⟩
    · simp at hq; subst hq
      have gg : act.tmps[45]?.getD undef = .bool ((((t && ts) && t0) && t1)) := hI.has 40 45 rfl (hall ⟨40, .guard⟩ (by simp) rfl)
      rcases Bool.eq_false_or_eq_true ((((t && ts) && t0) && t1)) with hc | hc
      case inr =>
        exact .inr ⟨(wanted_of rfl rfl (gg.trans (by rw [hc]))).trans rfl, Gd.no hc, ⟨_, rfl⟩⟩
      have g51 : act.tmps[51]?.getD undef = .pointer (some ⟨B', 11, none⟩) := Gd.get (hI.has 46 51 rfl (hall ⟨46, .data⟩ (by simp) rfl)) hc
      clear hI hall hnot hcl
      refine .inl ⟨(wanted_of rfl rfl (gg.trans (by rw [hc]))).trans rfl, ?_⟩
      clear gg
      unfold Oper.wp
      go_simp
      all_goals exact ⟨_, rfl, Gd.yes (by first | rfl | exact hc) rfl, ⟨_, rfl⟩⟩
    · simp at hq; subst hq
      have gg : act.tmps[45]?.getD undef = .bool ((((t && ts) && t0) && t1)) := hI.has 40 45 rfl (hall ⟨40, .guard⟩ (by simp) rfl)
      rcases Bool.eq_false_or_eq_true ((((t && ts) && t0) && t1)) with hc | hc
      case inr =>
        exact .inr ⟨(wanted_of rfl rfl (gg.trans (by rw [hc]))).trans rfl, Gd.no hc, ⟨_, rfl⟩⟩
      have g52 : act.tmps[52]?.getD undef = .pointer (some ⟨B', 22, none⟩) := Gd.get (hI.has 47 52 rfl (hall ⟨47, .data⟩ (by simp) rfl)) hc
      clear hI hall hnot hcl
      refine .inl ⟨(wanted_of rfl rfl (gg.trans (by rw [hc]))).trans rfl, ?_⟩
      clear gg
      unfold Oper.wp
      go_simp
      all_goals exact ⟨_, rfl, Gd.yes (by first | rfl | exact hc) rfl, ⟨_, rfl⟩⟩
    · simp at hq; subst hq
      have gg : act.tmps[45]?.getD undef = .bool ((((t && ts) && t0) && t1)) := hI.has 40 45 rfl (hall ⟨40, .guard⟩ (by simp) rfl)
      rcases Bool.eq_false_or_eq_true ((((t && ts) && t0) && t1)) with hc | hc
      case inr =>
        exact .inr ⟨(wanted_of rfl rfl (gg.trans (by rw [hc]))).trans rfl, Gd.no hc, ⟨_, rfl⟩⟩
      have g49 : act.tmps[49]?.getD undef = .float .f32 en := Gd.get (hI.has 44 49 rfl (hall ⟨44, .data⟩ (by simp) rfl)) hc
      have g53 : act.tmps[53]?.getD undef = .float .f32 en' := Gd.get (hI.has 48 53 rfl (hall ⟨48, .data⟩ (by simp) rfl)) hc
      clear hI hall hnot hcl
      refine .inl ⟨(wanted_of rfl rfl (gg.trans (by rw [hc]))).trans rfl, ?_⟩
      clear gg
      unfold Oper.wp
      go_simp
      refine (Q2 _).out.mono ?_
      rintro e w4 ⟨rfl, rfl⟩
      exact ⟨_, rfl, Gd.yes (by first | rfl | exact hc) rfl, ⟨_, rfl⟩⟩
    · simp at hq; subst hq
      have g45 : act.tmps[45]?.getD undef = .bool (((t && ts) && t0) && t1) := hI.has 40 45 rfl (hall ⟨40, .data⟩ (by simp) rfl)
      have G54 := hI.has 49 54 rfl (hall ⟨49, .data⟩ (by simp) rfl)
      clear hI hall hnot hcl
      refine .inl ⟨wanted_none rfl, ?_⟩
      unfold Oper.wp
      rcases Bool.eq_false_or_eq_true ((((t && ts) && t0) && t1)) with hc | hc
      · rw [hc] at g45
        have g54 := Gd.get G54 hc
        clear G54
        go_simp
        all_goals exact ⟨_, rfl, by first | rfl | (rw [hc]; rfl), ⟨_, rfl⟩⟩
      · rw [hc] at g45
        have g54 := Gd.un G54 hc
        clear G54
        go_simp
        all_goals exact ⟨_, rfl, by first | rfl | (rw [hc]; rfl), ⟨_, rfl⟩⟩
    · simp at hq; subst hq
      have g55 : act.tmps[55]?.getD undef = .bool ((((t && ts) && t0) && t1) && t2) := hI.has 50 55 rfl (hall ⟨50, .data⟩ (by simp) rfl)
      clear hI hall hnot hcl
      refine .inl ⟨wanted_none rfl, ?_⟩
      unfold Oper.wp
      go_simp
      all_goals exact ⟨_, rfl, rfl, ⟨_, rfl⟩⟩
    · simp at hq
  case hend =>
    intro listed act w3 hI hall
    obtain ⟨nn, rfl⟩ := hI.cls
    have g4 : act.tmps[4]?.getD undef = .bool ((((t && ts) && t0) && t1) && t2) := hI.has 51 4 rfl (hall 51 (by decide))
    have hd := hI.defers
    clear hI hall
    go_wp2
    refine bodyPost_ret (v := .bool ((((t && ts) && t0) && t1) && t2)) (by simp [results, Try.results138, g4, go_sem]) (by first | rfl | exact hd) ?_
    first | refine ⟨?_, nn, rfl⟩ | refine ⟨nn, ?_, rfl⟩
    rw [HE.out]
    simp only [Bool.and_assoc]
end Go.Proofs.Ytiiiigldpbomkaa
