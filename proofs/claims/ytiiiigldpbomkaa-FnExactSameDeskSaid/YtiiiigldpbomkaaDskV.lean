/- A valid desk, both sides. No statement is proved here. -/
import Derived.Test.YtiiiigldpbomkaaDsk
namespace Go.Proofs.Ytiiiigldpbomkaa
open Go Go.RowKit
set_option maxHeartbeats 4000000 in
theorem s_l04IsD (d h s k B : Nat) (w : World) (hk : w.cell? ⟨B, 7, none⟩ = some (.float .f32 d) ∧ w.cell? ⟨B, 8, none⟩ = some (.float .f32 h) ∧ w.cell? ⟨B, 9, none⟩ = some (.float .f32 s) ∧ w.cell? ⟨B, 10, none⟩ = some (.float .f32 k)) :
    Calls Try.prog 91 #[.pointer (some ⟨B, 7, none⟩)] w fun e w' => ∃ n, e = .returned (.bool (airV d h s k)) ∧ w' = w.drewN n := by
  obtain ⟨k0, k1, k2, k3⟩ := hk
  go_enter Try.func91, Try.ntmps91
  go_wp2_with fail
  refine (s_l02Above _ _).mono ?_
  rintro e w' ⟨n1, rfl, rfl⟩
  cases p1 : posi d
  · go_wp2
    go_ret
    exact ⟨_, by unfold airV; rw [p1]; rfl, by first | rfl | (simp only [World.drewN_drewN]; rfl)⟩
  · go_wp2_with fail
    refine (s_l02Above _ _).mono ?_
    rintro e w' ⟨n2, rfl, rfl⟩
    cases p2 : posi h
    · go_wp2
      go_ret
      exact ⟨_, by unfold airV; rw [p1, p2]; rfl, by first | rfl | (simp only [World.drewN_drewN]; rfl)⟩
    · go_wp2_with fail
      refine (s_l02Least _ _).mono ?_
      rintro e w' ⟨n3, rfl, rfl⟩
      cases p3 : amount s
      · go_wp2
        go_ret
        exact ⟨_, by unfold airV; rw [p1, p2, p3]; rfl, by first | rfl | (simp only [World.drewN_drewN]; rfl)⟩
      · go_wp2_with fail
        refine (s_l04Share _ _).mono ?_
        rintro e w' ⟨rfl, rfl⟩
        go_wp2
        go_ret
        exact ⟨_, by unfold airV; rw [p1, p2, p3]; rfl, by first | rfl | (simp only [World.drewN_drewN]; rfl)⟩
def C8D (w : World) (B : Nat) (p0 p1 p2 p3 p4 p5 p6 p7 : Nat) : Prop := w.cell? ⟨B, 11, none⟩ = some (.float .f32 p0) ∧ w.cell? ⟨B, 12, none⟩ = some (.float .f32 p1) ∧ w.cell? ⟨B, 13, none⟩ = some (.float .f32 p2) ∧ w.cell? ⟨B, 14, none⟩ = some (.float .f32 p3) ∧ w.cell? ⟨B, 15, none⟩ = some (.float .f32 p4) ∧ w.cell? ⟨B, 16, none⟩ = some (.float .f32 p5) ∧ w.cell? ⟨B, 17, none⟩ = some (.float .f32 p6) ∧ w.cell? ⟨B, 18, none⟩ = some (.float .f32 p7)
theorem C8D.draws {w : World} {B : Nat} {p0 p1 p2 p3 p4 p5 p6 p7 : Nat} (h : C8D w B p0 p1 p2 p3 p4 p5 p6 p7) (n : Nat) : C8D (w.drewN n) B p0 p1 p2 p3 p4 p5 p6 p7 := h
def C12D (w : World) (B : Nat) (p0 p1 p2 p3 p4 p5 p6 p7 : Nat) (st : Int) (sp pi en : Nat) : Prop := C8D w B p0 p1 p2 p3 p4 p5 p6 p7 ∧ w.cell? ⟨B, 19, none⟩ = some (.int .i64 st) ∧ w.cell? ⟨B, 20, none⟩ = some (.float .f32 sp) ∧ w.cell? ⟨B, 21, none⟩ = some (.float .f32 pi) ∧ w.cell? ⟨B, 22, none⟩ = some (.float .f32 en)
set_option maxHeartbeats 8000000 in
theorem s_l05PlantD (p0 p1 p2 p3 p4 p5 p6 p7 : Nat) (B : Nat) (w : World) (hk : C8D w B p0 p1 p2 p3 p4 p5 p6 p7) :
    Calls Try.prog 192 #[.pointer (some ⟨B, 11, none⟩)] w fun e w' => ∃ n, e = .returned (.bool (plantV p0 p1 p2 p3 p4 p5 p6 p7)) ∧ w' = w.drewN n := by
  obtain ⟨k0, k1, k2, k3, k4, k5, k6, k7⟩ := hk
  have Q0 : ∀ W, Hid (Calls Try.prog 92 #[.float .f32 p0] W fun e w' => ∃ n, e = .returned (.bool (posi p0)) ∧ w' = W.drewN n) := fun W => Lib.hid (s_l02Above _ _)
  have Q1 : ∀ W, Hid (Calls Try.prog 153 #[.float .f32 p1] W fun e w' => ∃ n, e = .returned (.bool (amount p1)) ∧ w' = W.drewN n) := fun W => Lib.hid (s_l02Least _ _)
  have Q2 : ∀ W, Hid (Calls Try.prog 92 #[.float .f32 p2] W fun e w' => ∃ n, e = .returned (.bool (posi p2)) ∧ w' = W.drewN n) := fun W => Lib.hid (s_l02Above _ _)
  have Q3 : ∀ W, Hid (Calls Try.prog 92 #[.float .f32 p3] W fun e w' => ∃ n, e = .returned (.bool (posi p3)) ∧ w' = W.drewN n) := fun W => Lib.hid (s_l02Above _ _)
  have Q4 : ∀ W, Hid (Calls Try.prog 93 #[.float .f32 p4] W fun e w' => ∃ n, e = .returned (.bool (fin .f32 p4)) ∧ w' = W.drewN n) := fun W => Lib.hid (s_l01Finite _ _)
  have P5 : Hid ((FloatKind.f32.format.order p4 p3 == some .gt) = gtr32 p4 p3) := rfl
  have Q6 : ∀ W, Hid (Calls Try.prog 92 #[.float .f32 p5] W fun e w' => ∃ n, e = .returned (.bool (posi p5)) ∧ w' = W.drewN n) := fun W => Lib.hid (s_l02Above _ _)
  have Q7 : ∀ W, Hid (Calls Try.prog 93 #[.float .f32 p6] W fun e w' => ∃ n, e = .returned (.bool (fin .f32 p6)) ∧ w' = W.drewN n) := fun W => Lib.hid (s_l01Finite _ _)
  have P8 : Hid ((FloatKind.f32.format.order p6 p5 == some .gt) = gtr32 p6 p5) := rfl
  have Q9 : ∀ W, Hid (Calls Try.prog 92 #[.float .f32 p7] W fun e w' => ∃ n, e = .returned (.bool (posi p7)) ∧ w' = W.drewN n) := fun W => Lib.hid (s_l02Above _ _)
  have HE : Hid (plantV p0 p1 p2 p3 p4 p5 p6 p7 = (posi p0 && (amount p1 && (posi p2 && (posi p3 && (fin .f32 p4 && (gtr32 p4 p3 && (posi p5 && (fin .f32 p6 && (gtr32 p6 p5 && (posi p7))))))))))) := rfl
  generalize posi p0 = t0 at Q0 HE
  generalize amount p1 = t1 at Q1 HE
  generalize posi p2 = t2 at Q2 HE
  generalize posi p3 = t3 at Q3 HE
  generalize fin .f32 p4 = t4 at Q4 HE
  generalize gtr32 p4 p3 = t5 at P5 HE
  generalize posi p5 = t6 at Q6 HE
  generalize fin .f32 p6 = t7 at Q7 HE
  generalize gtr32 p6 p5 = t8 at P8 HE
  generalize posi p7 = t9 at Q9 HE
  generalize plantV p0 p1 p2 p3 p4 p5 p6 p7 = tt at HE
  have hdd : ∀ nn j, ∃ mm, (w.drewN nn).drewN j = w.drewN mm := fun nn j => ⟨nn + j, World.drewN_drewN ..⟩
  go_enter Try.func192, Try.ntmps192
  go_wp2_with fail
  refine wp_region_inv3 (fun iq v => match iq with
    | 0 => v = .pointer (some ⟨B, 11, none⟩)
    | 1 => v = .pointer (some ⟨B, 11, none⟩)
    | 2 => v = .pointer (some ⟨B, 11, none⟩)
    | 3 => v = .float .f32 p0
    | 4 => v = .bool t0
    | 5 => v = .bool t0
    | 6 => Gd t0 true (v = .pointer (some ⟨B, 11, none⟩)) v
    | 7 => Gd t0 true (v = .pointer (some ⟨B, 11, none⟩)) v
    | 8 => Gd t0 true (v = .pointer (some ⟨B, 12, none⟩)) v
    | 9 => Gd t0 true (v = .float .f32 p1) v
    | 10 => Gd t0 true (v = .bool t1) v
    | 11 => v = .bool (t0 && t1)
    | 12 => v = .bool (t0 && t1)
    | 13 => Gd ((t0 && t1)) true (v = .pointer (some ⟨B, 11, none⟩)) v
    | 14 => Gd ((t0 && t1)) true (v = .pointer (some ⟨B, 11, none⟩)) v
    | 15 => Gd ((t0 && t1)) true (v = .pointer (some ⟨B, 13, none⟩)) v
    | 16 => Gd ((t0 && t1)) true (v = .float .f32 p2) v
    | 17 => Gd ((t0 && t1)) true (v = .bool t2) v
    | 18 => v = .bool ((t0 && t1) && t2)
    | 19 => v = .bool ((t0 && t1) && t2)
    | 20 => Gd (((t0 && t1) && t2)) true (v = .pointer (some ⟨B, 11, none⟩)) v
    | 21 => Gd (((t0 && t1) && t2)) true (v = .pointer (some ⟨B, 11, none⟩)) v
    | 22 => Gd (((t0 && t1) && t2)) true (v = .pointer (some ⟨B, 14, none⟩)) v
    | 23 => Gd (((t0 && t1) && t2)) true (v = .float .f32 p3) v
    | 24 => Gd (((t0 && t1) && t2)) true (v = .bool t3) v
    | 25 => v = .bool (((t0 && t1) && t2) && t3)
    | 26 => v = .bool (((t0 && t1) && t2) && t3)
    | 27 => Gd ((((t0 && t1) && t2) && t3)) true (v = .pointer (some ⟨B, 11, none⟩)) v
    | 28 => Gd ((((t0 && t1) && t2) && t3)) true (v = .pointer (some ⟨B, 11, none⟩)) v
    | 29 => Gd ((((t0 && t1) && t2) && t3)) true (v = .pointer (some ⟨B, 15, none⟩)) v
    | 30 => Gd ((((t0 && t1) && t2) && t3)) true (v = .float .f32 p4) v
    | 31 => Gd ((((t0 && t1) && t2) && t3)) true (v = .bool t4) v
    | 32 => v = .bool ((((t0 && t1) && t2) && t3) && t4)
    | 33 => v = .bool ((((t0 && t1) && t2) && t3) && t4)
    | 34 => Gd (((((t0 && t1) && t2) && t3) && t4)) true (v = .pointer (some ⟨B, 11, none⟩)) v
    | 35 => Gd (((((t0 && t1) && t2) && t3) && t4)) true (v = .pointer (some ⟨B, 11, none⟩)) v
    | 36 => Gd (((((t0 && t1) && t2) && t3) && t4)) true (v = .pointer (some ⟨B, 15, none⟩)) v
    | 37 => Gd (((((t0 && t1) && t2) && t3) && t4)) true (v = .float .f32 p4) v
    | 38 => Gd (((((t0 && t1) && t2) && t3) && t4)) true (v = .pointer (some ⟨B, 11, none⟩)) v
    | 39 => Gd (((((t0 && t1) && t2) && t3) && t4)) true (v = .pointer (some ⟨B, 11, none⟩)) v
    | 40 => Gd (((((t0 && t1) && t2) && t3) && t4)) true (v = .pointer (some ⟨B, 14, none⟩)) v
    | 41 => Gd (((((t0 && t1) && t2) && t3) && t4)) true (v = .float .f32 p3) v
    | 42 => Gd (((((t0 && t1) && t2) && t3) && t4)) true (v = .bool t5) v
    | 43 => v = .bool (((((t0 && t1) && t2) && t3) && t4) && t5)
    | 44 => v = .bool (((((t0 && t1) && t2) && t3) && t4) && t5)
    | 45 => Gd ((((((t0 && t1) && t2) && t3) && t4) && t5)) true (v = .pointer (some ⟨B, 11, none⟩)) v
    | 46 => Gd ((((((t0 && t1) && t2) && t3) && t4) && t5)) true (v = .pointer (some ⟨B, 11, none⟩)) v
    | 47 => Gd ((((((t0 && t1) && t2) && t3) && t4) && t5)) true (v = .pointer (some ⟨B, 16, none⟩)) v
    | 48 => Gd ((((((t0 && t1) && t2) && t3) && t4) && t5)) true (v = .float .f32 p5) v
    | 49 => Gd ((((((t0 && t1) && t2) && t3) && t4) && t5)) true (v = .bool t6) v
    | 50 => v = .bool ((((((t0 && t1) && t2) && t3) && t4) && t5) && t6)
    | 51 => v = .bool ((((((t0 && t1) && t2) && t3) && t4) && t5) && t6)
    | 52 => Gd (((((((t0 && t1) && t2) && t3) && t4) && t5) && t6)) true (v = .pointer (some ⟨B, 11, none⟩)) v
    | 53 => Gd (((((((t0 && t1) && t2) && t3) && t4) && t5) && t6)) true (v = .pointer (some ⟨B, 11, none⟩)) v
    | 54 => Gd (((((((t0 && t1) && t2) && t3) && t4) && t5) && t6)) true (v = .pointer (some ⟨B, 17, none⟩)) v
    | 55 => Gd (((((((t0 && t1) && t2) && t3) && t4) && t5) && t6)) true (v = .float .f32 p6) v
    | 56 => Gd (((((((t0 && t1) && t2) && t3) && t4) && t5) && t6)) true (v = .bool t7) v
    | 57 => v = .bool (((((((t0 && t1) && t2) && t3) && t4) && t5) && t6) && t7)
    | 58 => v = .bool (((((((t0 && t1) && t2) && t3) && t4) && t5) && t6) && t7)
    | 59 => Gd ((((((((t0 && t1) && t2) && t3) && t4) && t5) && t6) && t7)) true (v = .pointer (some ⟨B, 11, none⟩)) v
    | 60 => Gd ((((((((t0 && t1) && t2) && t3) && t4) && t5) && t6) && t7)) true (v = .pointer (some ⟨B, 11, none⟩)) v
    | 61 => Gd ((((((((t0 && t1) && t2) && t3) && t4) && t5) && t6) && t7)) true (v = .pointer (some ⟨B, 17, none⟩)) v
    | 62 => Gd ((((((((t0 && t1) && t2) && t3) && t4) && t5) && t6) && t7)) true (v = .float .f32 p6) v
    | 63 => Gd ((((((((t0 && t1) && t2) && t3) && t4) && t5) && t6) && t7)) true (v = .pointer (some ⟨B, 11, none⟩)) v
    | 64 => Gd ((((((((t0 && t1) && t2) && t3) && t4) && t5) && t6) && t7)) true (v = .pointer (some ⟨B, 11, none⟩)) v
    | 65 => Gd ((((((((t0 && t1) && t2) && t3) && t4) && t5) && t6) && t7)) true (v = .pointer (some ⟨B, 16, none⟩)) v
    | 66 => Gd ((((((((t0 && t1) && t2) && t3) && t4) && t5) && t6) && t7)) true (v = .float .f32 p5) v
    | 67 => Gd ((((((((t0 && t1) && t2) && t3) && t4) && t5) && t6) && t7)) true (v = .bool t8) v
    | 68 => v = .bool ((((((((t0 && t1) && t2) && t3) && t4) && t5) && t6) && t7) && t8)
    | 69 => v = .bool ((((((((t0 && t1) && t2) && t3) && t4) && t5) && t6) && t7) && t8)
    | 70 => Gd (((((((((t0 && t1) && t2) && t3) && t4) && t5) && t6) && t7) && t8)) true (v = .pointer (some ⟨B, 11, none⟩)) v
    | 71 => Gd (((((((((t0 && t1) && t2) && t3) && t4) && t5) && t6) && t7) && t8)) true (v = .pointer (some ⟨B, 11, none⟩)) v
    | 72 => Gd (((((((((t0 && t1) && t2) && t3) && t4) && t5) && t6) && t7) && t8)) true (v = .pointer (some ⟨B, 18, none⟩)) v
    | 73 => Gd (((((((((t0 && t1) && t2) && t3) && t4) && t5) && t6) && t7) && t8)) true (v = .float .f32 p7) v
    | 74 => Gd (((((((((t0 && t1) && t2) && t3) && t4) && t5) && t6) && t7) && t8)) true (v = .bool t9) v
    | 75 => v = .bool (((((((((t0 && t1) && t2) && t3) && t4) && t5) && t6) && t7) && t8) && t9)
    | 76 => v = .bool (((((((((t0 && t1) && t2) && t3) && t4) && t5) && t6) && t7) && t8) && t9)
    | _ => False) (fun _ ww => ∃ nn, ww = w.drewN nn) (by kernel_rfl) (by kernel_rfl) ⟨1, rfl⟩ ?hop ?hend
  case hop =>
    intro q o hq listed act w3 hI hnot hcl hall
    obtain ⟨nn, rfl⟩ := hI.cls
    rcases q with _ | _ | _ | _ | _ | _ | _ | _ | _ | _ | _ | _ | _ | _ | _ | _ | _ | _ | _ | _ | _ | _ | _ | _ | _ | _ | _ | _ | _ | _ | _ | _ | _ | _ | _ | _ | _ | _ | _ | _ | _ | _ | _ | _ | _ | _ | _ | _ | _ | _ | _ | _ | _ | _ | _ | _ | _ | _ | _ | _ | _ | _ | _ | _ | _ | _ | _ | _ | _ | _ | _ | _ | _ | _ | _ | _ | _ | q
    · simp at hq; subst hq
      have g0 : act.tmps[0]?.getD undef = .pointer (some ⟨B, 11, none⟩) := hI.kept 0 (by kernel_rfl)
      clear hI hall hnot hcl
      refine .inl ⟨wanted_none rfl, ?_⟩
      unfold Oper.wp
      go_simp
      all_goals exact ⟨_, rfl, rfl, ⟨_, rfl⟩⟩
    · simp at hq; subst hq
      have g3 : act.tmps[3]?.getD undef = .pointer (some ⟨B, 11, none⟩) := hI.has 0 3 rfl (hall ⟨0, .data⟩ (by simp) rfl)
      clear hI hall hnot hcl
      refine .inl ⟨wanted_none rfl, ?_⟩
      unfold Oper.wp
      go_simp
      all_goals exact ⟨_, rfl, rfl, ⟨_, rfl⟩⟩
    · simp at hq; subst hq
      have g4 : act.tmps[4]?.getD undef = .pointer (some ⟨B, 11, none⟩) := hI.has 1 4 rfl (hall ⟨1, .data⟩ (by simp) rfl)
      clear hI hall hnot hcl
      refine .inl ⟨wanted_none rfl, ?_⟩
      unfold Oper.wp
      go_simp
      all_goals exact ⟨_, rfl, rfl, ⟨_, rfl⟩⟩
    · simp at hq; subst hq
      have g5 : act.tmps[5]?.getD undef = .pointer (some ⟨B, 11, none⟩) := hI.has 2 5 rfl (hall ⟨2, .data⟩ (by simp) rfl)
      clear hI hall hnot hcl
      refine .inl ⟨wanted_none rfl, ?_⟩
      unfold Oper.wp
      go_simp
      all_goals exact ⟨_, rfl, rfl, ⟨_, rfl⟩⟩
    · simp at hq; subst hq
      have g6 : act.tmps[6]?.getD undef = .float .f32 p0 := hI.has 3 6 rfl (hall ⟨3, .data⟩ (by simp) rfl)
      clear hI hall hnot hcl
      refine .inl ⟨wanted_none rfl, ?_⟩
      unfold Oper.wp
      go_simp
      refine (Q0 _).out.mono ?_
      rintro e w4 ⟨n4, rfl, rfl⟩
      exact ⟨_, rfl, rfl, hdd _ _⟩
    · simp at hq; subst hq
      have g7 : act.tmps[7]?.getD undef = .bool t0 := hI.has 4 7 rfl (hall ⟨4, .data⟩ (by simp) rfl)
      clear hI hall hnot hcl
      refine .inl ⟨wanted_none rfl, ?_⟩
      unfold Oper.wp
      go_simp
      all_goals exact ⟨_, rfl, rfl, ⟨_, rfl⟩⟩
    · simp at hq; subst hq
      have gg : act.tmps[8]?.getD undef = .bool t0 := hI.has 5 8 rfl (hall ⟨5, .guard⟩ (by simp) rfl)
      rcases Bool.eq_false_or_eq_true t0 with hc | hc
      case inr =>
        exact .inr ⟨(wanted_of rfl rfl (gg.trans (by rw [hc]))).trans rfl, Gd.no hc, ⟨_, rfl⟩⟩
      have g0 : act.tmps[0]?.getD undef = .pointer (some ⟨B, 11, none⟩) := hI.kept 0 (by kernel_rfl)
      clear hI hall hnot hcl
      refine .inl ⟨(wanted_of rfl rfl (gg.trans (by rw [hc]))).trans rfl, ?_⟩
      clear gg
      unfold Oper.wp
      go_simp
      all_goals exact ⟨_, rfl, Gd.yes (by first | rfl | exact hc) rfl, ⟨_, rfl⟩⟩
    · simp at hq; subst hq
      have gg : act.tmps[8]?.getD undef = .bool t0 := hI.has 5 8 rfl (hall ⟨5, .guard⟩ (by simp) rfl)
      rcases Bool.eq_false_or_eq_true t0 with hc | hc
      case inr =>
        exact .inr ⟨(wanted_of rfl rfl (gg.trans (by rw [hc]))).trans rfl, Gd.no hc, ⟨_, rfl⟩⟩
      have g9 : act.tmps[9]?.getD undef = .pointer (some ⟨B, 11, none⟩) := Gd.get (hI.has 6 9 rfl (hall ⟨6, .data⟩ (by simp) rfl)) hc
      clear hI hall hnot hcl
      refine .inl ⟨(wanted_of rfl rfl (gg.trans (by rw [hc]))).trans rfl, ?_⟩
      clear gg
      unfold Oper.wp
      go_simp
      all_goals exact ⟨_, rfl, Gd.yes (by first | rfl | exact hc) rfl, ⟨_, rfl⟩⟩
    · simp at hq; subst hq
      have gg : act.tmps[8]?.getD undef = .bool t0 := hI.has 5 8 rfl (hall ⟨5, .guard⟩ (by simp) rfl)
      rcases Bool.eq_false_or_eq_true t0 with hc | hc
      case inr =>
        exact .inr ⟨(wanted_of rfl rfl (gg.trans (by rw [hc]))).trans rfl, Gd.no hc, ⟨_, rfl⟩⟩
      have g10 : act.tmps[10]?.getD undef = .pointer (some ⟨B, 11, none⟩) := Gd.get (hI.has 7 10 rfl (hall ⟨7, .data⟩ (by simp) rfl)) hc
      clear hI hall hnot hcl
      refine .inl ⟨(wanted_of rfl rfl (gg.trans (by rw [hc]))).trans rfl, ?_⟩
      clear gg
      unfold Oper.wp
      go_simp
      all_goals exact ⟨_, rfl, Gd.yes (by first | rfl | exact hc) rfl, ⟨_, rfl⟩⟩
    · simp at hq; subst hq
      have gg : act.tmps[8]?.getD undef = .bool t0 := hI.has 5 8 rfl (hall ⟨5, .guard⟩ (by simp) rfl)
      rcases Bool.eq_false_or_eq_true t0 with hc | hc
      case inr =>
        exact .inr ⟨(wanted_of rfl rfl (gg.trans (by rw [hc]))).trans rfl, Gd.no hc, ⟨_, rfl⟩⟩
      have g11 : act.tmps[11]?.getD undef = .pointer (some ⟨B, 12, none⟩) := Gd.get (hI.has 8 11 rfl (hall ⟨8, .data⟩ (by simp) rfl)) hc
      clear hI hall hnot hcl
      refine .inl ⟨(wanted_of rfl rfl (gg.trans (by rw [hc]))).trans rfl, ?_⟩
      clear gg
      unfold Oper.wp
      go_simp
      all_goals exact ⟨_, rfl, Gd.yes (by first | rfl | exact hc) rfl, ⟨_, rfl⟩⟩
    · simp at hq; subst hq
      have gg : act.tmps[8]?.getD undef = .bool t0 := hI.has 5 8 rfl (hall ⟨5, .guard⟩ (by simp) rfl)
      rcases Bool.eq_false_or_eq_true t0 with hc | hc
      case inr =>
        exact .inr ⟨(wanted_of rfl rfl (gg.trans (by rw [hc]))).trans rfl, Gd.no hc, ⟨_, rfl⟩⟩
      have g12 : act.tmps[12]?.getD undef = .float .f32 p1 := Gd.get (hI.has 9 12 rfl (hall ⟨9, .data⟩ (by simp) rfl)) hc
      clear hI hall hnot hcl
      refine .inl ⟨(wanted_of rfl rfl (gg.trans (by rw [hc]))).trans rfl, ?_⟩
      clear gg
      unfold Oper.wp
      go_simp
      refine (Q1 _).out.mono ?_
      rintro e w4 ⟨n4, rfl, rfl⟩
      exact ⟨_, rfl, Gd.yes (by first | rfl | exact hc) rfl, hdd _ _⟩
    · simp at hq; subst hq
      have g8 : act.tmps[8]?.getD undef = .bool t0 := hI.has 5 8 rfl (hall ⟨5, .data⟩ (by simp) rfl)
      have G13 := hI.has 10 13 rfl (hall ⟨10, .data⟩ (by simp) rfl)
      clear hI hall hnot hcl
      refine .inl ⟨wanted_none rfl, ?_⟩
      unfold Oper.wp
      rcases Bool.eq_false_or_eq_true t0 with hc | hc
      · rw [hc] at g8
        have g13 := Gd.get G13 hc
        clear G13
        go_simp
        all_goals exact ⟨_, rfl, by first | rfl | (rw [hc]; rfl), ⟨_, rfl⟩⟩
      · rw [hc] at g8
        have g13 := Gd.un G13 hc
        clear G13
        go_simp
        all_goals exact ⟨_, rfl, by first | rfl | (rw [hc]; rfl), ⟨_, rfl⟩⟩
    · simp at hq; subst hq
      have g14 : act.tmps[14]?.getD undef = .bool (t0 && t1) := hI.has 11 14 rfl (hall ⟨11, .data⟩ (by simp) rfl)
      clear hI hall hnot hcl
      refine .inl ⟨wanted_none rfl, ?_⟩
      unfold Oper.wp
      go_simp
      all_goals exact ⟨_, rfl, rfl, ⟨_, rfl⟩⟩
    · simp at hq; subst hq
      have gg : act.tmps[15]?.getD undef = .bool ((t0 && t1)) := hI.has 12 15 rfl (hall ⟨12, .guard⟩ (by simp) rfl)
      rcases Bool.eq_false_or_eq_true ((t0 && t1)) with hc | hc
      case inr =>
        exact .inr ⟨(wanted_of rfl rfl (gg.trans (by rw [hc]))).trans rfl, Gd.no hc, ⟨_, rfl⟩⟩
      have g0 : act.tmps[0]?.getD undef = .pointer (some ⟨B, 11, none⟩) := hI.kept 0 (by kernel_rfl)
      clear hI hall hnot hcl
      refine .inl ⟨(wanted_of rfl rfl (gg.trans (by rw [hc]))).trans rfl, ?_⟩
      clear gg
      unfold Oper.wp
      go_simp
      all_goals exact ⟨_, rfl, Gd.yes (by first | rfl | exact hc) rfl, ⟨_, rfl⟩⟩
    · simp at hq; subst hq
      have gg : act.tmps[15]?.getD undef = .bool ((t0 && t1)) := hI.has 12 15 rfl (hall ⟨12, .guard⟩ (by simp) rfl)
      rcases Bool.eq_false_or_eq_true ((t0 && t1)) with hc | hc
      case inr =>
        exact .inr ⟨(wanted_of rfl rfl (gg.trans (by rw [hc]))).trans rfl, Gd.no hc, ⟨_, rfl⟩⟩
      have g16 : act.tmps[16]?.getD undef = .pointer (some ⟨B, 11, none⟩) := Gd.get (hI.has 13 16 rfl (hall ⟨13, .data⟩ (by simp) rfl)) hc
      clear hI hall hnot hcl
      refine .inl ⟨(wanted_of rfl rfl (gg.trans (by rw [hc]))).trans rfl, ?_⟩
      clear gg
      unfold Oper.wp
      go_simp
      all_goals exact ⟨_, rfl, Gd.yes (by first | rfl | exact hc) rfl, ⟨_, rfl⟩⟩
    · simp at hq; subst hq
      have gg : act.tmps[15]?.getD undef = .bool ((t0 && t1)) := hI.has 12 15 rfl (hall ⟨12, .guard⟩ (by simp) rfl)
      rcases Bool.eq_false_or_eq_true ((t0 && t1)) with hc | hc
      case inr =>
        exact .inr ⟨(wanted_of rfl rfl (gg.trans (by rw [hc]))).trans rfl, Gd.no hc, ⟨_, rfl⟩⟩
      have g17 : act.tmps[17]?.getD undef = .pointer (some ⟨B, 11, none⟩) := Gd.get (hI.has 14 17 rfl (hall ⟨14, .data⟩ (by simp) rfl)) hc
      clear hI hall hnot hcl
      refine .inl ⟨(wanted_of rfl rfl (gg.trans (by rw [hc]))).trans rfl, ?_⟩
      clear gg
      unfold Oper.wp
      go_simp
      all_goals exact ⟨_, rfl, Gd.yes (by first | rfl | exact hc) rfl, ⟨_, rfl⟩⟩
    · simp at hq; subst hq
      have gg : act.tmps[15]?.getD undef = .bool ((t0 && t1)) := hI.has 12 15 rfl (hall ⟨12, .guard⟩ (by simp) rfl)
      rcases Bool.eq_false_or_eq_true ((t0 && t1)) with hc | hc
      case inr =>
        exact .inr ⟨(wanted_of rfl rfl (gg.trans (by rw [hc]))).trans rfl, Gd.no hc, ⟨_, rfl⟩⟩
      have g18 : act.tmps[18]?.getD undef = .pointer (some ⟨B, 13, none⟩) := Gd.get (hI.has 15 18 rfl (hall ⟨15, .data⟩ (by simp) rfl)) hc
      clear hI hall hnot hcl
      refine .inl ⟨(wanted_of rfl rfl (gg.trans (by rw [hc]))).trans rfl, ?_⟩
      clear gg
      unfold Oper.wp
      go_simp
      all_goals exact ⟨_, rfl, Gd.yes (by first | rfl | exact hc) rfl, ⟨_, rfl⟩⟩
    · simp at hq; subst hq
      have gg : act.tmps[15]?.getD undef = .bool ((t0 && t1)) := hI.has 12 15 rfl (hall ⟨12, .guard⟩ (by simp) rfl)
      rcases Bool.eq_false_or_eq_true ((t0 && t1)) with hc | hc
      case inr =>
        exact .inr ⟨(wanted_of rfl rfl (gg.trans (by rw [hc]))).trans rfl, Gd.no hc, ⟨_, rfl⟩⟩
      have g19 : act.tmps[19]?.getD undef = .float .f32 p2 := Gd.get (hI.has 16 19 rfl (hall ⟨16, .data⟩ (by simp) rfl)) hc
      clear hI hall hnot hcl
      refine .inl ⟨(wanted_of rfl rfl (gg.trans (by rw [hc]))).trans rfl, ?_⟩
      clear gg
      unfold Oper.wp
      go_simp
      refine (Q2 _).out.mono ?_
      rintro e w4 ⟨n4, rfl, rfl⟩
      exact ⟨_, rfl, Gd.yes (by first | rfl | exact hc) rfl, hdd _ _⟩
    · simp at hq; subst hq
      have g15 : act.tmps[15]?.getD undef = .bool (t0 && t1) := hI.has 12 15 rfl (hall ⟨12, .data⟩ (by simp) rfl)
      have G20 := hI.has 17 20 rfl (hall ⟨17, .data⟩ (by simp) rfl)
      clear hI hall hnot hcl
      refine .inl ⟨wanted_none rfl, ?_⟩
      unfold Oper.wp
      rcases Bool.eq_false_or_eq_true ((t0 && t1)) with hc | hc
      · rw [hc] at g15
        have g20 := Gd.get G20 hc
        clear G20
        go_simp
        all_goals exact ⟨_, rfl, by first | rfl | (rw [hc]; rfl), ⟨_, rfl⟩⟩
      · rw [hc] at g15
        have g20 := Gd.un G20 hc
        clear G20
        go_simp
        all_goals exact ⟨_, rfl, by first | rfl | (rw [hc]; rfl), ⟨_, rfl⟩⟩
    · simp at hq; subst hq
      have g21 : act.tmps[21]?.getD undef = .bool ((t0 && t1) && t2) := hI.has 18 21 rfl (hall ⟨18, .data⟩ (by simp) rfl)
      clear hI hall hnot hcl
      refine .inl ⟨wanted_none rfl, ?_⟩
      unfold Oper.wp
      go_simp
      all_goals exact ⟨_, rfl, rfl, ⟨_, rfl⟩⟩
    · simp at hq; subst hq
      have gg : act.tmps[22]?.getD undef = .bool (((t0 && t1) && t2)) := hI.has 19 22 rfl (hall ⟨19, .guard⟩ (by simp) rfl)
      rcases Bool.eq_false_or_eq_true (((t0 && t1) && t2)) with hc | hc
      case inr =>
        exact .inr ⟨(wanted_of rfl rfl (gg.trans (by rw [hc]))).trans rfl, Gd.no hc, ⟨_, rfl⟩⟩
      have g0 : act.tmps[0]?.getD undef = .pointer (some ⟨B, 11, none⟩) := hI.kept 0 (by kernel_rfl)
      clear hI hall hnot hcl
      refine .inl ⟨(wanted_of rfl rfl (gg.trans (by rw [hc]))).trans rfl, ?_⟩
      clear gg
      unfold Oper.wp
      go_simp
      all_goals exact ⟨_, rfl, Gd.yes (by first | rfl | exact hc) rfl, ⟨_, rfl⟩⟩
    · simp at hq; subst hq
      have gg : act.tmps[22]?.getD undef = .bool (((t0 && t1) && t2)) := hI.has 19 22 rfl (hall ⟨19, .guard⟩ (by simp) rfl)
      rcases Bool.eq_false_or_eq_true (((t0 && t1) && t2)) with hc | hc
      case inr =>
        exact .inr ⟨(wanted_of rfl rfl (gg.trans (by rw [hc]))).trans rfl, Gd.no hc, ⟨_, rfl⟩⟩
      have g23 : act.tmps[23]?.getD undef = .pointer (some ⟨B, 11, none⟩) := Gd.get (hI.has 20 23 rfl (hall ⟨20, .data⟩ (by simp) rfl)) hc
      clear hI hall hnot hcl
      refine .inl ⟨(wanted_of rfl rfl (gg.trans (by rw [hc]))).trans rfl, ?_⟩
      clear gg
      unfold Oper.wp
      go_simp
      all_goals exact ⟨_, rfl, Gd.yes (by first | rfl | exact hc) rfl, ⟨_, rfl⟩⟩
    · simp at hq; subst hq
      have gg : act.tmps[22]?.getD undef = .bool (((t0 && t1) && t2)) := hI.has 19 22 rfl (hall ⟨19, .guard⟩ (by simp) rfl)
      rcases Bool.eq_false_or_eq_true (((t0 && t1) && t2)) with hc | hc
      case inr =>
        exact .inr ⟨(wanted_of rfl rfl (gg.trans (by rw [hc]))).trans rfl, Gd.no hc, ⟨_, rfl⟩⟩
      have g24 : act.tmps[24]?.getD undef = .pointer (some ⟨B, 11, none⟩) := Gd.get (hI.has 21 24 rfl (hall ⟨21, .data⟩ (by simp) rfl)) hc
      clear hI hall hnot hcl
      refine .inl ⟨(wanted_of rfl rfl (gg.trans (by rw [hc]))).trans rfl, ?_⟩
      clear gg
      unfold Oper.wp
      go_simp
      all_goals exact ⟨_, rfl, Gd.yes (by first | rfl | exact hc) rfl, ⟨_, rfl⟩⟩
    · simp at hq; subst hq
      have gg : act.tmps[22]?.getD undef = .bool (((t0 && t1) && t2)) := hI.has 19 22 rfl (hall ⟨19, .guard⟩ (by simp) rfl)
      rcases Bool.eq_false_or_eq_true (((t0 && t1) && t2)) with hc | hc
      case inr =>
        exact .inr ⟨(wanted_of rfl rfl (gg.trans (by rw [hc]))).trans rfl, Gd.no hc, ⟨_, rfl⟩⟩
      have g25 : act.tmps[25]?.getD undef = .pointer (some ⟨B, 14, none⟩) := Gd.get (hI.has 22 25 rfl (hall ⟨22, .data⟩ (by simp) rfl)) hc
      clear hI hall hnot hcl
      refine .inl ⟨(wanted_of rfl rfl (gg.trans (by rw [hc]))).trans rfl, ?_⟩
      clear gg
      unfold Oper.wp
      go_simp
      all_goals exact ⟨_, rfl, Gd.yes (by first | rfl | exact hc) rfl, ⟨_, rfl⟩⟩
    · simp at hq; subst hq
      have gg : act.tmps[22]?.getD undef = .bool (((t0 && t1) && t2)) := hI.has 19 22 rfl (hall ⟨19, .guard⟩ (by simp) rfl)
      rcases Bool.eq_false_or_eq_true (((t0 && t1) && t2)) with hc | hc
      case inr =>
        exact .inr ⟨(wanted_of rfl rfl (gg.trans (by rw [hc]))).trans rfl, Gd.no hc, ⟨_, rfl⟩⟩
      have g26 : act.tmps[26]?.getD undef = .float .f32 p3 := Gd.get (hI.has 23 26 rfl (hall ⟨23, .data⟩ (by simp) rfl)) hc
      clear hI hall hnot hcl
      refine .inl ⟨(wanted_of rfl rfl (gg.trans (by rw [hc]))).trans rfl, ?_⟩
      clear gg
      unfold Oper.wp
      go_simp
      refine (Q3 _).out.mono ?_
      rintro e w4 ⟨n4, rfl, rfl⟩
      exact ⟨_, rfl, Gd.yes (by first | rfl | exact hc) rfl, hdd _ _⟩
    · simp at hq; subst hq
      have g22 : act.tmps[22]?.getD undef = .bool ((t0 && t1) && t2) := hI.has 19 22 rfl (hall ⟨19, .data⟩ (by simp) rfl)
      have G27 := hI.has 24 27 rfl (hall ⟨24, .data⟩ (by simp) rfl)
      clear hI hall hnot hcl
      refine .inl ⟨wanted_none rfl, ?_⟩
      unfold Oper.wp
      rcases Bool.eq_false_or_eq_true (((t0 && t1) && t2)) with hc | hc
      · rw [hc] at g22
        have g27 := Gd.get G27 hc
        clear G27
        go_simp
        all_goals exact ⟨_, rfl, by first | rfl | (rw [hc]; rfl), ⟨_, rfl⟩⟩
      · rw [hc] at g22
        have g27 := Gd.un G27 hc
        clear G27
        go_simp
        all_goals exact ⟨_, rfl, by first | rfl | (rw [hc]; rfl), ⟨_, rfl⟩⟩
    · simp at hq; subst hq
      have g28 : act.tmps[28]?.getD undef = .bool (((t0 && t1) && t2) && t3) := hI.has 25 28 rfl (hall ⟨25, .data⟩ (by simp) rfl)
      clear hI hall hnot hcl
      refine .inl ⟨wanted_none rfl, ?_⟩
      unfold Oper.wp
      go_simp
      all_goals exact ⟨_, rfl, rfl, ⟨_, rfl⟩⟩
    · simp at hq; subst hq
      have gg : act.tmps[29]?.getD undef = .bool ((((t0 && t1) && t2) && t3)) := hI.has 26 29 rfl (hall ⟨26, .guard⟩ (by simp) rfl)
      rcases Bool.eq_false_or_eq_true ((((t0 && t1) && t2) && t3)) with hc | hc
      case inr =>
        exact .inr ⟨(wanted_of rfl rfl (gg.trans (by rw [hc]))).trans rfl, Gd.no hc, ⟨_, rfl⟩⟩
      have g0 : act.tmps[0]?.getD undef = .pointer (some ⟨B, 11, none⟩) := hI.kept 0 (by kernel_rfl)
      clear hI hall hnot hcl
      refine .inl ⟨(wanted_of rfl rfl (gg.trans (by rw [hc]))).trans rfl, ?_⟩
      clear gg
      unfold Oper.wp
      go_simp
      all_goals exact ⟨_, rfl, Gd.yes (by first | rfl | exact hc) rfl, ⟨_, rfl⟩⟩
    · simp at hq; subst hq
      have gg : act.tmps[29]?.getD undef = .bool ((((t0 && t1) && t2) && t3)) := hI.has 26 29 rfl (hall ⟨26, .guard⟩ (by simp) rfl)
      rcases Bool.eq_false_or_eq_true ((((t0 && t1) && t2) && t3)) with hc | hc
      case inr =>
        exact .inr ⟨(wanted_of rfl rfl (gg.trans (by rw [hc]))).trans rfl, Gd.no hc, ⟨_, rfl⟩⟩
      have g30 : act.tmps[30]?.getD undef = .pointer (some ⟨B, 11, none⟩) := Gd.get (hI.has 27 30 rfl (hall ⟨27, .data⟩ (by simp) rfl)) hc
      clear hI hall hnot hcl
      refine .inl ⟨(wanted_of rfl rfl (gg.trans (by rw [hc]))).trans rfl, ?_⟩
      clear gg
      unfold Oper.wp
      go_simp
      all_goals exact ⟨_, rfl, Gd.yes (by first | rfl | exact hc) rfl, ⟨_, rfl⟩⟩
    · simp at hq; subst hq
      have gg : act.tmps[29]?.getD undef = .bool ((((t0 && t1) && t2) && t3)) := hI.has 26 29 rfl (hall ⟨26, .guard⟩ (by simp) rfl)
      rcases Bool.eq_false_or_eq_true ((((t0 && t1) && t2) && t3)) with hc | hc
      case inr =>
        exact .inr ⟨(wanted_of rfl rfl (gg.trans (by rw [hc]))).trans rfl, Gd.no hc, ⟨_, rfl⟩⟩
      have g31 : act.tmps[31]?.getD undef = .pointer (some ⟨B, 11, none⟩) := Gd.get (hI.has 28 31 rfl (hall ⟨28, .data⟩ (by simp) rfl)) hc
      clear hI hall hnot hcl
      refine .inl ⟨(wanted_of rfl rfl (gg.trans (by rw [hc]))).trans rfl, ?_⟩
      clear gg
      unfold Oper.wp
      go_simp
      all_goals exact ⟨_, rfl, Gd.yes (by first | rfl | exact hc) rfl, ⟨_, rfl⟩⟩
    · simp at hq; subst hq
      have gg : act.tmps[29]?.getD undef = .bool ((((t0 && t1) && t2) && t3)) := hI.has 26 29 rfl (hall ⟨26, .guard⟩ (by simp) rfl)
      rcases Bool.eq_false_or_eq_true ((((t0 && t1) && t2) && t3)) with hc | hc
      case inr =>
        exact .inr ⟨(wanted_of rfl rfl (gg.trans (by rw [hc]))).trans rfl, Gd.no hc, ⟨_, rfl⟩⟩
      have g32 : act.tmps[32]?.getD undef = .pointer (some ⟨B, 15, none⟩) := Gd.get (hI.has 29 32 rfl (hall ⟨29, .data⟩ (by simp) rfl)) hc
      clear hI hall hnot hcl
      refine .inl ⟨(wanted_of rfl rfl (gg.trans (by rw [hc]))).trans rfl, ?_⟩
      clear gg
      unfold Oper.wp
      go_simp
      all_goals exact ⟨_, rfl, Gd.yes (by first | rfl | exact hc) rfl, ⟨_, rfl⟩⟩
    · simp at hq; subst hq
      have gg : act.tmps[29]?.getD undef = .bool ((((t0 && t1) && t2) && t3)) := hI.has 26 29 rfl (hall ⟨26, .guard⟩ (by simp) rfl)
      rcases Bool.eq_false_or_eq_true ((((t0 && t1) && t2) && t3)) with hc | hc
      case inr =>
        exact .inr ⟨(wanted_of rfl rfl (gg.trans (by rw [hc]))).trans rfl, Gd.no hc, ⟨_, rfl⟩⟩
      have g33 : act.tmps[33]?.getD undef = .float .f32 p4 := Gd.get (hI.has 30 33 rfl (hall ⟨30, .data⟩ (by simp) rfl)) hc
      clear hI hall hnot hcl
      refine .inl ⟨(wanted_of rfl rfl (gg.trans (by rw [hc]))).trans rfl, ?_⟩
      clear gg
      unfold Oper.wp
      go_simp
      refine (Q4 _).out.mono ?_
      rintro e w4 ⟨n4, rfl, rfl⟩
      exact ⟨_, rfl, Gd.yes (by first | rfl | exact hc) rfl, hdd _ _⟩
    · simp at hq; subst hq
      have g29 : act.tmps[29]?.getD undef = .bool (((t0 && t1) && t2) && t3) := hI.has 26 29 rfl (hall ⟨26, .data⟩ (by simp) rfl)
      have G34 := hI.has 31 34 rfl (hall ⟨31, .data⟩ (by simp) rfl)
      clear hI hall hnot hcl
      refine .inl ⟨wanted_none rfl, ?_⟩
      unfold Oper.wp
      rcases Bool.eq_false_or_eq_true ((((t0 && t1) && t2) && t3)) with hc | hc
      · rw [hc] at g29
        have g34 := Gd.get G34 hc
        clear G34
        go_simp
        all_goals exact ⟨_, rfl, by first | rfl | (rw [hc]; rfl), ⟨_, rfl⟩⟩
      · rw [hc] at g29
        have g34 := Gd.un G34 hc
        clear G34
        go_simp
        all_goals exact ⟨_, rfl, by first | rfl | (rw [hc]; rfl), ⟨_, rfl⟩⟩
    · simp at hq; subst hq
      have g35 : act.tmps[35]?.getD undef = .bool ((((t0 && t1) && t2) && t3) && t4) := hI.has 32 35 rfl (hall ⟨32, .data⟩ (by simp) rfl)
      clear hI hall hnot hcl
      refine .inl ⟨wanted_none rfl, ?_⟩
      unfold Oper.wp
      go_simp
      all_goals exact ⟨_, rfl, rfl, ⟨_, rfl⟩⟩
    · simp at hq; subst hq
      have gg : act.tmps[36]?.getD undef = .bool (((((t0 && t1) && t2) && t3) && t4)) := hI.has 33 36 rfl (hall ⟨33, .guard⟩ (by simp) rfl)
      rcases Bool.eq_false_or_eq_true (((((t0 && t1) && t2) && t3) && t4)) with hc | hc
      case inr =>
        exact .inr ⟨(wanted_of rfl rfl (gg.trans (by rw [hc]))).trans rfl, Gd.no hc, ⟨_, rfl⟩⟩
      have g0 : act.tmps[0]?.getD undef = .pointer (some ⟨B, 11, none⟩) := hI.kept 0 (by kernel_rfl)
      clear hI hall hnot hcl
      refine .inl ⟨(wanted_of rfl rfl (gg.trans (by rw [hc]))).trans rfl, ?_⟩
      clear gg
      unfold Oper.wp
      go_simp
      all_goals exact ⟨_, rfl, Gd.yes (by first | rfl | exact hc) rfl, ⟨_, rfl⟩⟩
    · simp at hq; subst hq
      have gg : act.tmps[36]?.getD undef = .bool (((((t0 && t1) && t2) && t3) && t4)) := hI.has 33 36 rfl (hall ⟨33, .guard⟩ (by simp) rfl)
      rcases Bool.eq_false_or_eq_true (((((t0 && t1) && t2) && t3) && t4)) with hc | hc
      case inr =>
        exact .inr ⟨(wanted_of rfl rfl (gg.trans (by rw [hc]))).trans rfl, Gd.no hc, ⟨_, rfl⟩⟩
      have g37 : act.tmps[37]?.getD undef = .pointer (some ⟨B, 11, none⟩) := Gd.get (hI.has 34 37 rfl (hall ⟨34, .data⟩ (by simp) rfl)) hc
      clear hI hall hnot hcl
      refine .inl ⟨(wanted_of rfl rfl (gg.trans (by rw [hc]))).trans rfl, ?_⟩
      clear gg
      unfold Oper.wp
      go_simp
      all_goals exact ⟨_, rfl, Gd.yes (by first | rfl | exact hc) rfl, ⟨_, rfl⟩⟩
    · simp at hq; subst hq
      have gg : act.tmps[36]?.getD undef = .bool (((((t0 && t1) && t2) && t3) && t4)) := hI.has 33 36 rfl (hall ⟨33, .guard⟩ (by simp) rfl)
      rcases Bool.eq_false_or_eq_true (((((t0 && t1) && t2) && t3) && t4)) with hc | hc
      case inr =>
        exact .inr ⟨(wanted_of rfl rfl (gg.trans (by rw [hc]))).trans rfl, Gd.no hc, ⟨_, rfl⟩⟩
      have g38 : act.tmps[38]?.getD undef = .pointer (some ⟨B, 11, none⟩) := Gd.get (hI.has 35 38 rfl (hall ⟨35, .data⟩ (by simp) rfl)) hc
      clear hI hall hnot hcl
      refine .inl ⟨(wanted_of rfl rfl (gg.trans (by rw [hc]))).trans rfl, ?_⟩
      clear gg
      unfold Oper.wp
      go_simp
      all_goals exact ⟨_, rfl, Gd.yes (by first | rfl | exact hc) rfl, ⟨_, rfl⟩⟩
    · simp at hq; subst hq
      have gg : act.tmps[36]?.getD undef = .bool (((((t0 && t1) && t2) && t3) && t4)) := hI.has 33 36 rfl (hall ⟨33, .guard⟩ (by simp) rfl)
      rcases Bool.eq_false_or_eq_true (((((t0 && t1) && t2) && t3) && t4)) with hc | hc
      case inr =>
        exact .inr ⟨(wanted_of rfl rfl (gg.trans (by rw [hc]))).trans rfl, Gd.no hc, ⟨_, rfl⟩⟩
      have g39 : act.tmps[39]?.getD undef = .pointer (some ⟨B, 15, none⟩) := Gd.get (hI.has 36 39 rfl (hall ⟨36, .data⟩ (by simp) rfl)) hc
      clear hI hall hnot hcl
      refine .inl ⟨(wanted_of rfl rfl (gg.trans (by rw [hc]))).trans rfl, ?_⟩
      clear gg
      unfold Oper.wp
      go_simp
      all_goals exact ⟨_, rfl, Gd.yes (by first | rfl | exact hc) rfl, ⟨_, rfl⟩⟩
    · simp at hq; subst hq
      have gg : act.tmps[36]?.getD undef = .bool (((((t0 && t1) && t2) && t3) && t4)) := hI.has 33 36 rfl (hall ⟨33, .guard⟩ (by simp) rfl)
      rcases Bool.eq_false_or_eq_true (((((t0 && t1) && t2) && t3) && t4)) with hc | hc
      case inr =>
        exact .inr ⟨(wanted_of rfl rfl (gg.trans (by rw [hc]))).trans rfl, Gd.no hc, ⟨_, rfl⟩⟩
      have g0 : act.tmps[0]?.getD undef = .pointer (some ⟨B, 11, none⟩) := hI.kept 0 (by kernel_rfl)
      clear hI hall hnot hcl
      refine .inl ⟨(wanted_of rfl rfl (gg.trans (by rw [hc]))).trans rfl, ?_⟩
      clear gg
      unfold Oper.wp
      go_simp
      all_goals exact ⟨_, rfl, Gd.yes (by first | rfl | exact hc) rfl, ⟨_, rfl⟩⟩
    · simp at hq; subst hq
      have gg : act.tmps[36]?.getD undef = .bool (((((t0 && t1) && t2) && t3) && t4)) := hI.has 33 36 rfl (hall ⟨33, .guard⟩ (by simp) rfl)
      rcases Bool.eq_false_or_eq_true (((((t0 && t1) && t2) && t3) && t4)) with hc | hc
      case inr =>
        exact .inr ⟨(wanted_of rfl rfl (gg.trans (by rw [hc]))).trans rfl, Gd.no hc, ⟨_, rfl⟩⟩
      have g41 : act.tmps[41]?.getD undef = .pointer (some ⟨B, 11, none⟩) := Gd.get (hI.has 38 41 rfl (hall ⟨38, .data⟩ (by simp) rfl)) hc
      clear hI hall hnot hcl
      refine .inl ⟨(wanted_of rfl rfl (gg.trans (by rw [hc]))).trans rfl, ?_⟩
      clear gg
      unfold Oper.wp
      go_simp
      all_goals exact ⟨_, rfl, Gd.yes (by first | rfl | exact hc) rfl, ⟨_, rfl⟩⟩
    · simp at hq; subst hq
      have gg : act.tmps[36]?.getD undef = .bool (((((t0 && t1) && t2) && t3) && t4)) := hI.has 33 36 rfl (hall ⟨33, .guard⟩ (by simp) rfl)
      rcases Bool.eq_false_or_eq_true (((((t0 && t1) && t2) && t3) && t4)) with hc | hc
      case inr =>
        exact .inr ⟨(wanted_of rfl rfl (gg.trans (by rw [hc]))).trans rfl, Gd.no hc, ⟨_, rfl⟩⟩
      have g42 : act.tmps[42]?.getD undef = .pointer (some ⟨B, 11, none⟩) := Gd.get (hI.has 39 42 rfl (hall ⟨39, .data⟩ (by simp) rfl)) hc
      clear hI hall hnot hcl
      refine .inl ⟨(wanted_of rfl rfl (gg.trans (by rw [hc]))).trans rfl, ?_⟩
      clear gg
      unfold Oper.wp
      go_simp
      all_goals exact ⟨_, rfl, Gd.yes (by first | rfl | exact hc) rfl, ⟨_, rfl⟩⟩
    · simp at hq; subst hq
      have gg : act.tmps[36]?.getD undef = .bool (((((t0 && t1) && t2) && t3) && t4)) := hI.has 33 36 rfl (hall ⟨33, .guard⟩ (by simp) rfl)
      rcases Bool.eq_false_or_eq_true (((((t0 && t1) && t2) && t3) && t4)) with hc | hc
      case inr =>
        exact .inr ⟨(wanted_of rfl rfl (gg.trans (by rw [hc]))).trans rfl, Gd.no hc, ⟨_, rfl⟩⟩
      have g43 : act.tmps[43]?.getD undef = .pointer (some ⟨B, 14, none⟩) := Gd.get (hI.has 40 43 rfl (hall ⟨40, .data⟩ (by simp) rfl)) hc
      clear hI hall hnot hcl
      refine .inl ⟨(wanted_of rfl rfl (gg.trans (by rw [hc]))).trans rfl, ?_⟩
      clear gg
      unfold Oper.wp
      go_simp
      all_goals exact ⟨_, rfl, Gd.yes (by first | rfl | exact hc) rfl, ⟨_, rfl⟩⟩
    · simp at hq; subst hq
      have gg : act.tmps[36]?.getD undef = .bool (((((t0 && t1) && t2) && t3) && t4)) := hI.has 33 36 rfl (hall ⟨33, .guard⟩ (by simp) rfl)
      rcases Bool.eq_false_or_eq_true (((((t0 && t1) && t2) && t3) && t4)) with hc | hc
      case inr =>
        exact .inr ⟨(wanted_of rfl rfl (gg.trans (by rw [hc]))).trans rfl, Gd.no hc, ⟨_, rfl⟩⟩
      have g40 : act.tmps[40]?.getD undef = .float .f32 p4 := Gd.get (hI.has 37 40 rfl (hall ⟨37, .data⟩ (by simp) rfl)) hc
      have g44 : act.tmps[44]?.getD undef = .float .f32 p3 := Gd.get (hI.has 41 44 rfl (hall ⟨41, .data⟩ (by simp) rfl)) hc
      clear hI hall hnot hcl
      refine .inl ⟨(wanted_of rfl rfl (gg.trans (by rw [hc]))).trans rfl, ?_⟩
      clear gg
      unfold Oper.wp
      go_simp
      rw [P5.out]
      exact ⟨_, rfl, Gd.yes (by first | rfl | exact hc) rfl, ⟨_, rfl⟩⟩
    · simp at hq; subst hq
      have g36 : act.tmps[36]?.getD undef = .bool ((((t0 && t1) && t2) && t3) && t4) := hI.has 33 36 rfl (hall ⟨33, .data⟩ (by simp) rfl)
      have G45 := hI.has 42 45 rfl (hall ⟨42, .data⟩ (by simp) rfl)
      clear hI hall hnot hcl
      refine .inl ⟨wanted_none rfl, ?_⟩
      unfold Oper.wp
      rcases Bool.eq_false_or_eq_true (((((t0 && t1) && t2) && t3) && t4)) with hc | hc
      · rw [hc] at g36
        have g45 := Gd.get G45 hc
        clear G45
        go_simp
        all_goals exact ⟨_, rfl, by first | rfl | (rw [hc]; rfl), ⟨_, rfl⟩⟩
      · rw [hc] at g36
        have g45 := Gd.un G45 hc
        clear G45
        go_simp
        all_goals exact ⟨_, rfl, by first | rfl | (rw [hc]; rfl), ⟨_, rfl⟩⟩
    · simp at hq; subst hq
      have g46 : act.tmps[46]?.getD undef = .bool (((((t0 && t1) && t2) && t3) && t4) && t5) := hI.has 43 46 rfl (hall ⟨43, .data⟩ (by simp) rfl)
      clear hI hall hnot hcl
      refine .inl ⟨wanted_none rfl, ?_⟩
      unfold Oper.wp
      go_simp
      all_goals exact ⟨_, rfl, rfl, ⟨_, rfl⟩⟩
    · simp at hq; subst hq
      have gg : act.tmps[47]?.getD undef = .bool ((((((t0 && t1) && t2) && t3) && t4) && t5)) := hI.has 44 47 rfl (hall ⟨44, .guard⟩ (by simp) rfl)
      rcases Bool.eq_false_or_eq_true ((((((t0 && t1) && t2) && t3) && t4) && t5)) with hc | hc
      case inr =>
        exact .inr ⟨(wanted_of rfl rfl (gg.trans (by rw [hc]))).trans rfl, Gd.no hc, ⟨_, rfl⟩⟩
      have g0 : act.tmps[0]?.getD undef = .pointer (some ⟨B, 11, none⟩) := hI.kept 0 (by kernel_rfl)
      clear hI hall hnot hcl
      refine .inl ⟨(wanted_of rfl rfl (gg.trans (by rw [hc]))).trans rfl, ?_⟩
      clear gg
      unfold Oper.wp
      go_simp
      all_goals exact ⟨_, rfl, Gd.yes (by first | rfl | exact hc) rfl, ⟨_, rfl⟩⟩
    · simp at hq; subst hq
      have gg : act.tmps[47]?.getD undef = .bool ((((((t0 && t1) && t2) && t3) && t4) && t5)) := hI.has 44 47 rfl (hall ⟨44, .guard⟩ (by simp) rfl)
      rcases Bool.eq_false_or_eq_true ((((((t0 && t1) && t2) && t3) && t4) && t5)) with hc | hc
      case inr =>
        exact .inr ⟨(wanted_of rfl rfl (gg.trans (by rw [hc]))).trans rfl, Gd.no hc, ⟨_, rfl⟩⟩
      have g48 : act.tmps[48]?.getD undef = .pointer (some ⟨B, 11, none⟩) := Gd.get (hI.has 45 48 rfl (hall ⟨45, .data⟩ (by simp) rfl)) hc
      clear hI hall hnot hcl
      refine .inl ⟨(wanted_of rfl rfl (gg.trans (by rw [hc]))).trans rfl, ?_⟩
      clear gg
      unfold Oper.wp
      go_simp
      all_goals exact ⟨_, rfl, Gd.yes (by first | rfl | exact hc) rfl, ⟨_, rfl⟩⟩
    · simp at hq; subst hq
      have gg : act.tmps[47]?.getD undef = .bool ((((((t0 && t1) && t2) && t3) && t4) && t5)) := hI.has 44 47 rfl (hall ⟨44, .guard⟩ (by simp) rfl)
      rcases Bool.eq_false_or_eq_true ((((((t0 && t1) && t2) && t3) && t4) && t5)) with hc | hc
      case inr =>
        exact .inr ⟨(wanted_of rfl rfl (gg.trans (by rw [hc]))).trans rfl, Gd.no hc, ⟨_, rfl⟩⟩
      have g49 : act.tmps[49]?.getD undef = .pointer (some ⟨B, 11, none⟩) := Gd.get (hI.has 46 49 rfl (hall ⟨46, .data⟩ (by simp) rfl)) hc
      clear hI hall hnot hcl
      refine .inl ⟨(wanted_of rfl rfl (gg.trans (by rw [hc]))).trans rfl, ?_⟩
      clear gg
      unfold Oper.wp
      go_simp
      all_goals exact ⟨_, rfl, Gd.yes (by first | rfl | exact hc) rfl, ⟨_, rfl⟩⟩
    · simp at hq; subst hq
      have gg : act.tmps[47]?.getD undef = .bool ((((((t0 && t1) && t2) && t3) && t4) && t5)) := hI.has 44 47 rfl (hall ⟨44, .guard⟩ (by simp) rfl)
      rcases Bool.eq_false_or_eq_true ((((((t0 && t1) && t2) && t3) && t4) && t5)) with hc | hc
      case inr =>
        exact .inr ⟨(wanted_of rfl rfl (gg.trans (by rw [hc]))).trans rfl, Gd.no hc, ⟨_, rfl⟩⟩
      have g50 : act.tmps[50]?.getD undef = .pointer (some ⟨B, 16, none⟩) := Gd.get (hI.has 47 50 rfl (hall ⟨47, .data⟩ (by simp) rfl)) hc
      clear hI hall hnot hcl
      refine .inl ⟨(wanted_of rfl rfl (gg.trans (by rw [hc]))).trans rfl, ?_⟩
      clear gg
      unfold Oper.wp
      go_simp
      all_goals exact ⟨_, rfl, Gd.yes (by first | rfl | exact hc) rfl, ⟨_, rfl⟩⟩
    · simp at hq; subst hq
      have gg : act.tmps[47]?.getD undef = .bool ((((((t0 && t1) && t2) && t3) && t4) && t5)) := hI.has 44 47 rfl (hall ⟨44, .guard⟩ (by simp) rfl)
      rcases Bool.eq_false_or_eq_true ((((((t0 && t1) && t2) && t3) && t4) && t5)) with hc | hc
      case inr =>
        exact .inr ⟨(wanted_of rfl rfl (gg.trans (by rw [hc]))).trans rfl, Gd.no hc, ⟨_, rfl⟩⟩
      have g51 : act.tmps[51]?.getD undef = .float .f32 p5 := Gd.get (hI.has 48 51 rfl (hall ⟨48, .data⟩ (by simp) rfl)) hc
      clear hI hall hnot hcl
      refine .inl ⟨(wanted_of rfl rfl (gg.trans (by rw [hc]))).trans rfl, ?_⟩
      clear gg
      unfold Oper.wp
      go_simp
      refine (Q6 _).out.mono ?_
      rintro e w4 ⟨n4, rfl, rfl⟩
      exact ⟨_, rfl, Gd.yes (by first | rfl | exact hc) rfl, hdd _ _⟩
    · simp at hq; subst hq
      have g47 : act.tmps[47]?.getD undef = .bool (((((t0 && t1) && t2) && t3) && t4) && t5) := hI.has 44 47 rfl (hall ⟨44, .data⟩ (by simp) rfl)
      have G52 := hI.has 49 52 rfl (hall ⟨49, .data⟩ (by simp) rfl)
      clear hI hall hnot hcl
      refine .inl ⟨wanted_none rfl, ?_⟩
      unfold Oper.wp
      rcases Bool.eq_false_or_eq_true ((((((t0 && t1) && t2) && t3) && t4) && t5)) with hc | hc
      · rw [hc] at g47
        have g52 := Gd.get G52 hc
        clear G52
        go_simp
        all_goals exact ⟨_, rfl, by first | rfl | (rw [hc]; rfl), ⟨_, rfl⟩⟩
      · rw [hc] at g47
        have g52 := Gd.un G52 hc
        clear G52
        go_simp
        all_goals exact ⟨_, rfl, by first | rfl | (rw [hc]; rfl), ⟨_, rfl⟩⟩
    · simp at hq; subst hq
      have g53 : act.tmps[53]?.getD undef = .bool ((((((t0 && t1) && t2) && t3) && t4) && t5) && t6) := hI.has 50 53 rfl (hall ⟨50, .data⟩ (by simp) rfl)
      clear hI hall hnot hcl
      refine .inl ⟨wanted_none rfl, ?_⟩
      unfold Oper.wp
      go_simp
      all_goals exact ⟨_, rfl, rfl, ⟨_, rfl⟩⟩
    · simp at hq; subst hq
      have gg : act.tmps[54]?.getD undef = .bool (((((((t0 && t1) && t2) && t3) && t4) && t5) && t6)) := hI.has 51 54 rfl (hall ⟨51, .guard⟩ (by simp) rfl)
      rcases Bool.eq_false_or_eq_true (((((((t0 && t1) && t2) && t3) && t4) && t5) && t6)) with hc | hc
      case inr =>
        exact .inr ⟨(wanted_of rfl rfl (gg.trans (by rw [hc]))).trans rfl, Gd.no hc, ⟨_, rfl⟩⟩
      have g0 : act.tmps[0]?.getD undef = .pointer (some ⟨B, 11, none⟩) := hI.kept 0 (by kernel_rfl)
      clear hI hall hnot hcl
      refine .inl ⟨(wanted_of rfl rfl (gg.trans (by rw [hc]))).trans rfl, ?_⟩
      clear gg
      unfold Oper.wp
      go_simp
      all_goals exact ⟨_, rfl, Gd.yes (by first | rfl | exact hc) rfl, ⟨_, rfl⟩⟩
    · simp at hq; subst hq
      have gg : act.tmps[54]?.getD undef = .bool (((((((t0 && t1) && t2) && t3) && t4) && t5) && t6)) := hI.has 51 54 rfl (hall ⟨51, .guard⟩ (by simp) rfl)
      rcases Bool.eq_false_or_eq_true (((((((t0 && t1) && t2) && t3) && t4) && t5) && t6)) with hc | hc
      case inr =>
        exact .inr ⟨(wanted_of rfl rfl (gg.trans (by rw [hc]))).trans rfl, Gd.no hc, ⟨_, rfl⟩⟩
      have g55 : act.tmps[55]?.getD undef = .pointer (some ⟨B, 11, none⟩) := Gd.get (hI.has 52 55 rfl (hall ⟨52, .data⟩ (by simp) rfl)) hc
      clear hI hall hnot hcl
      refine .inl ⟨(wanted_of rfl rfl (gg.trans (by rw [hc]))).trans rfl, ?_⟩
      clear gg
      unfold Oper.wp
      go_simp
      all_goals exact ⟨_, rfl, Gd.yes (by first | rfl | exact hc) rfl, ⟨_, rfl⟩⟩
    · simp at hq; subst hq
      have gg : act.tmps[54]?.getD undef = .bool (((((((t0 && t1) && t2) && t3) && t4) && t5) && t6)) := hI.has 51 54 rfl (hall ⟨51, .guard⟩ (by simp) rfl)
      rcases Bool.eq_false_or_eq_true (((((((t0 && t1) && t2) && t3) && t4) && t5) && t6)) with hc | hc
      case inr =>
        exact .inr ⟨(wanted_of rfl rfl (gg.trans (by rw [hc]))).trans rfl, Gd.no hc, ⟨_, rfl⟩⟩
      have g56 : act.tmps[56]?.getD undef = .pointer (some ⟨B, 11, none⟩) := Gd.get (hI.has 53 56 rfl (hall ⟨53, .data⟩ (by simp) rfl)) hc
      clear hI hall hnot hcl
      refine .inl ⟨(wanted_of rfl rfl (gg.trans (by rw [hc]))).trans rfl, ?_⟩
      clear gg
      unfold Oper.wp
      go_simp
      all_goals exact ⟨_, rfl, Gd.yes (by first | rfl | exact hc) rfl, ⟨_, rfl⟩⟩
    · simp at hq; subst hq
      have gg : act.tmps[54]?.getD undef = .bool (((((((t0 && t1) && t2) && t3) && t4) && t5) && t6)) := hI.has 51 54 rfl (hall ⟨51, .guard⟩ (by simp) rfl)
      rcases Bool.eq_false_or_eq_true (((((((t0 && t1) && t2) && t3) && t4) && t5) && t6)) with hc | hc
      case inr =>
        exact .inr ⟨(wanted_of rfl rfl (gg.trans (by rw [hc]))).trans rfl, Gd.no hc, ⟨_, rfl⟩⟩
      have g57 : act.tmps[57]?.getD undef = .pointer (some ⟨B, 17, none⟩) := Gd.get (hI.has 54 57 rfl (hall ⟨54, .data⟩ (by simp) rfl)) hc
      clear hI hall hnot hcl
      refine .inl ⟨(wanted_of rfl rfl (gg.trans (by rw [hc]))).trans rfl, ?_⟩
      clear gg
      unfold Oper.wp
      go_simp
      all_goals exact ⟨_, rfl, Gd.yes (by first | rfl | exact hc) rfl, ⟨_, rfl⟩⟩
    · simp at hq; subst hq
      have gg : act.tmps[54]?.getD undef = .bool (((((((t0 && t1) && t2) && t3) && t4) && t5) && t6)) := hI.has 51 54 rfl (hall ⟨51, .guard⟩ (by simp) rfl)
      rcases Bool.eq_false_or_eq_true (((((((t0 && t1) && t2) && t3) && t4) && t5) && t6)) with hc | hc
      case inr =>
        exact .inr ⟨(wanted_of rfl rfl (gg.trans (by rw [hc]))).trans rfl, Gd.no hc, ⟨_, rfl⟩⟩
      have g58 : act.tmps[58]?.getD undef = .float .f32 p6 := Gd.get (hI.has 55 58 rfl (hall ⟨55, .data⟩ (by simp) rfl)) hc
      clear hI hall hnot hcl
      refine .inl ⟨(wanted_of rfl rfl (gg.trans (by rw [hc]))).trans rfl, ?_⟩
      clear gg
      unfold Oper.wp
      go_simp
      refine (Q7 _).out.mono ?_
      rintro e w4 ⟨n4, rfl, rfl⟩
      exact ⟨_, rfl, Gd.yes (by first | rfl | exact hc) rfl, hdd _ _⟩
    · simp at hq; subst hq
      have g54 : act.tmps[54]?.getD undef = .bool ((((((t0 && t1) && t2) && t3) && t4) && t5) && t6) := hI.has 51 54 rfl (hall ⟨51, .data⟩ (by simp) rfl)
      have G59 := hI.has 56 59 rfl (hall ⟨56, .data⟩ (by simp) rfl)
      clear hI hall hnot hcl
      refine .inl ⟨wanted_none rfl, ?_⟩
      unfold Oper.wp
      rcases Bool.eq_false_or_eq_true (((((((t0 && t1) && t2) && t3) && t4) && t5) && t6)) with hc | hc
      · rw [hc] at g54
        have g59 := Gd.get G59 hc
        clear G59
        go_simp
        all_goals exact ⟨_, rfl, by first | rfl | (rw [hc]; rfl), ⟨_, rfl⟩⟩
      · rw [hc] at g54
        have g59 := Gd.un G59 hc
        clear G59
        go_simp
        all_goals exact ⟨_, rfl, by first | rfl | (rw [hc]; rfl), ⟨_, rfl⟩⟩
    · simp at hq; subst hq
      have g60 : act.tmps[60]?.getD undef = .bool (((((((t0 && t1) && t2) && t3) && t4) && t5) && t6) && t7) := hI.has 57 60 rfl (hall ⟨57, .data⟩ (by simp) rfl)
      clear hI hall hnot hcl
      refine .inl ⟨wanted_none rfl, ?_⟩
      unfold Oper.wp
      go_simp
      all_goals exact ⟨_, rfl, rfl, ⟨_, rfl⟩⟩
    · simp at hq; subst hq
      have gg : act.tmps[61]?.getD undef = .bool ((((((((t0 && t1) && t2) && t3) && t4) && t5) && t6) && t7)) := hI.has 58 61 rfl (hall ⟨58, .guard⟩ (by simp) rfl)
      rcases Bool.eq_false_or_eq_true ((((((((t0 && t1) && t2) && t3) && t4) && t5) && t6) && t7)) with hc | hc
      case inr =>
        exact .inr ⟨(wanted_of rfl rfl (gg.trans (by rw [hc]))).trans rfl, Gd.no hc, ⟨_, rfl⟩⟩
      have g0 : act.tmps[0]?.getD undef = .pointer (some ⟨B, 11, none⟩) := hI.kept 0 (by kernel_rfl)
      clear hI hall hnot hcl
      refine .inl ⟨(wanted_of rfl rfl (gg.trans (by rw [hc]))).trans rfl, ?_⟩
      clear gg
      unfold Oper.wp
      go_simp
      all_goals exact ⟨_, rfl, Gd.yes (by first | rfl | exact hc) rfl, ⟨_, rfl⟩⟩
    · simp at hq; subst hq
      have gg : act.tmps[61]?.getD undef = .bool ((((((((t0 && t1) && t2) && t3) && t4) && t5) && t6) && t7)) := hI.has 58 61 rfl (hall ⟨58, .guard⟩ (by simp) rfl)
      rcases Bool.eq_false_or_eq_true ((((((((t0 && t1) && t2) && t3) && t4) && t5) && t6) && t7)) with hc | hc
      case inr =>
        exact .inr ⟨(wanted_of rfl rfl (gg.trans (by rw [hc]))).trans rfl, Gd.no hc, ⟨_, rfl⟩⟩
      have g62 : act.tmps[62]?.getD undef = .pointer (some ⟨B, 11, none⟩) := Gd.get (hI.has 59 62 rfl (hall ⟨59, .data⟩ (by simp) rfl)) hc
      clear hI hall hnot hcl
      refine .inl ⟨(wanted_of rfl rfl (gg.trans (by rw [hc]))).trans rfl, ?_⟩
      clear gg
      unfold Oper.wp
      go_simp
      all_goals exact ⟨_, rfl, Gd.yes (by first | rfl | exact hc) rfl, ⟨_, rfl⟩⟩
    · simp at hq; subst hq
      have gg : act.tmps[61]?.getD undef = .bool ((((((((t0 && t1) && t2) && t3) && t4) && t5) && t6) && t7)) := hI.has 58 61 rfl (hall ⟨58, .guard⟩ (by simp) rfl)
      rcases Bool.eq_false_or_eq_true ((((((((t0 && t1) && t2) && t3) && t4) && t5) && t6) && t7)) with hc | hc
      case inr =>
        exact .inr ⟨(wanted_of rfl rfl (gg.trans (by rw [hc]))).trans rfl, Gd.no hc, ⟨_, rfl⟩⟩
      have g63 : act.tmps[63]?.getD undef = .pointer (some ⟨B, 11, none⟩) := Gd.get (hI.has 60 63 rfl (hall ⟨60, .data⟩ (by simp) rfl)) hc
      clear hI hall hnot hcl
      refine .inl ⟨(wanted_of rfl rfl (gg.trans (by rw [hc]))).trans rfl, ?_⟩
      clear gg
      unfold Oper.wp
      go_simp
      all_goals exact ⟨_, rfl, Gd.yes (by first | rfl | exact hc) rfl, ⟨_, rfl⟩⟩
    · simp at hq; subst hq
      have gg : act.tmps[61]?.getD undef = .bool ((((((((t0 && t1) && t2) && t3) && t4) && t5) && t6) && t7)) := hI.has 58 61 rfl (hall ⟨58, .guard⟩ (by simp) rfl)
      rcases Bool.eq_false_or_eq_true ((((((((t0 && t1) && t2) && t3) && t4) && t5) && t6) && t7)) with hc | hc
      case inr =>
        exact .inr ⟨(wanted_of rfl rfl (gg.trans (by rw [hc]))).trans rfl, Gd.no hc, ⟨_, rfl⟩⟩
      have g64 : act.tmps[64]?.getD undef = .pointer (some ⟨B, 17, none⟩) := Gd.get (hI.has 61 64 rfl (hall ⟨61, .data⟩ (by simp) rfl)) hc
      clear hI hall hnot hcl
      refine .inl ⟨(wanted_of rfl rfl (gg.trans (by rw [hc]))).trans rfl, ?_⟩
      clear gg
      unfold Oper.wp
      go_simp
      all_goals exact ⟨_, rfl, Gd.yes (by first | rfl | exact hc) rfl, ⟨_, rfl⟩⟩
    · simp at hq; subst hq
      have gg : act.tmps[61]?.getD undef = .bool ((((((((t0 && t1) && t2) && t3) && t4) && t5) && t6) && t7)) := hI.has 58 61 rfl (hall ⟨58, .guard⟩ (by simp) rfl)
      rcases Bool.eq_false_or_eq_true ((((((((t0 && t1) && t2) && t3) && t4) && t5) && t6) && t7)) with hc | hc
      case inr =>
        exact .inr ⟨(wanted_of rfl rfl (gg.trans (by rw [hc]))).trans rfl, Gd.no hc, ⟨_, rfl⟩⟩
      have g0 : act.tmps[0]?.getD undef = .pointer (some ⟨B, 11, none⟩) := hI.kept 0 (by kernel_rfl)
      clear hI hall hnot hcl
      refine .inl ⟨(wanted_of rfl rfl (gg.trans (by rw [hc]))).trans rfl, ?_⟩
      clear gg
      unfold Oper.wp
      go_simp
      all_goals exact ⟨_, rfl, Gd.yes (by first | rfl | exact hc) rfl, ⟨_, rfl⟩⟩
    · simp at hq; subst hq
      have gg : act.tmps[61]?.getD undef = .bool ((((((((t0 && t1) && t2) && t3) && t4) && t5) && t6) && t7)) := hI.has 58 61 rfl (hall ⟨58, .guard⟩ (by simp) rfl)
      rcases Bool.eq_false_or_eq_true ((((((((t0 && t1) && t2) && t3) && t4) && t5) && t6) && t7)) with hc | hc
      case inr =>
        exact .inr ⟨(wanted_of rfl rfl (gg.trans (by rw [hc]))).trans rfl, Gd.no hc, ⟨_, rfl⟩⟩
      have g66 : act.tmps[66]?.getD undef = .pointer (some ⟨B, 11, none⟩) := Gd.get (hI.has 63 66 rfl (hall ⟨63, .data⟩ (by simp) rfl)) hc
      clear hI hall hnot hcl
      refine .inl ⟨(wanted_of rfl rfl (gg.trans (by rw [hc]))).trans rfl, ?_⟩
      clear gg
      unfold Oper.wp
      go_simp
      all_goals exact ⟨_, rfl, Gd.yes (by first | rfl | exact hc) rfl, ⟨_, rfl⟩⟩
    · simp at hq; subst hq
      have gg : act.tmps[61]?.getD undef = .bool ((((((((t0 && t1) && t2) && t3) && t4) && t5) && t6) && t7)) := hI.has 58 61 rfl (hall ⟨58, .guard⟩ (by simp) rfl)
      rcases Bool.eq_false_or_eq_true ((((((((t0 && t1) && t2) && t3) && t4) && t5) && t6) && t7)) with hc | hc
      case inr =>
        exact .inr ⟨(wanted_of rfl rfl (gg.trans (by rw [hc]))).trans rfl, Gd.no hc, ⟨_, rfl⟩⟩
      have g67 : act.tmps[67]?.getD undef = .pointer (some ⟨B, 11, none⟩) := Gd.get (hI.has 64 67 rfl (hall ⟨64, .data⟩ (by simp) rfl)) hc
      clear hI hall hnot hcl
      refine .inl ⟨(wanted_of rfl rfl (gg.trans (by rw [hc]))).trans rfl, ?_⟩
      clear gg
      unfold Oper.wp
      go_simp
      all_goals exact ⟨_, rfl, Gd.yes (by first | rfl | exact hc) rfl, ⟨_, rfl⟩⟩
    · simp at hq; subst hq
      have gg : act.tmps[61]?.getD undef = .bool ((((((((t0 && t1) && t2) && t3) && t4) && t5) && t6) && t7)) := hI.has 58 61 rfl (hall ⟨58, .guard⟩ (by simp) rfl)
      rcases Bool.eq_false_or_eq_true ((((((((t0 && t1) && t2) && t3) && t4) && t5) && t6) && t7)) with hc | hc
      case inr =>
        exact .inr ⟨(wanted_of rfl rfl (gg.trans (by rw [hc]))).trans rfl, Gd.no hc, ⟨_, rfl⟩⟩
      have g68 : act.tmps[68]?.getD undef = .pointer (some ⟨B, 16, none⟩) := Gd.get (hI.has 65 68 rfl (hall ⟨65, .data⟩ (by simp) rfl)) hc
      clear hI hall hnot hcl
      refine .inl ⟨(wanted_of rfl rfl (gg.trans (by rw [hc]))).trans rfl, ?_⟩
      clear gg
      unfold Oper.wp
      go_simp
      all_goals exact ⟨_, rfl, Gd.yes (by first | rfl | exact hc) rfl, ⟨_, rfl⟩⟩
    · simp at hq; subst hq
      have gg : act.tmps[61]?.getD undef = .bool ((((((((t0 && t1) && t2) && t3) && t4) && t5) && t6) && t7)) := hI.has 58 61 rfl (hall ⟨58, .guard⟩ (by simp) rfl)
      rcases Bool.eq_false_or_eq_true ((((((((t0 && t1) && t2) && t3) && t4) && t5) && t6) && t7)) with hc | hc
      case inr =>
        exact .inr ⟨(wanted_of rfl rfl (gg.trans (by rw [hc]))).trans rfl, Gd.no hc, ⟨_, rfl⟩⟩
      have g65 : act.tmps[65]?.getD undef = .float .f32 p6 := Gd.get (hI.has 62 65 rfl (hall ⟨62, .data⟩ (by simp) rfl)) hc
      have g69 : act.tmps[69]?.getD undef = .float .f32 p5 := Gd.get (hI.has 66 69 rfl (hall ⟨66, .data⟩ (by simp) rfl)) hc
      clear hI hall hnot hcl
      refine .inl ⟨(wanted_of rfl rfl (gg.trans (by rw [hc]))).trans rfl, ?_⟩
      clear gg
      unfold Oper.wp
      go_simp
      rw [P8.out]
      exact ⟨_, rfl, Gd.yes (by first | rfl | exact hc) rfl, ⟨_, rfl⟩⟩
    · simp at hq; subst hq
      have g61 : act.tmps[61]?.getD undef = .bool (((((((t0 && t1) && t2) && t3) && t4) && t5) && t6) && t7) := hI.has 58 61 rfl (hall ⟨58, .data⟩ (by simp) rfl)
      have G70 := hI.has 67 70 rfl (hall ⟨67, .data⟩ (by simp) rfl)
      clear hI hall hnot hcl
      refine .inl ⟨wanted_none rfl, ?_⟩
      unfold Oper.wp
      rcases Bool.eq_false_or_eq_true ((((((((t0 && t1) && t2) && t3) && t4) && t5) && t6) && t7)) with hc | hc
      · rw [hc] at g61
        have g70 := Gd.get G70 hc
        clear G70
        go_simp
        all_goals exact ⟨_, rfl, by first | rfl | (rw [hc]; rfl), ⟨_, rfl⟩⟩
      · rw [hc] at g61
        have g70 := Gd.un G70 hc
        clear G70
        go_simp
        all_goals exact ⟨_, rfl, by first | rfl | (rw [hc]; rfl), ⟨_, rfl⟩⟩
    · simp at hq; subst hq
      have g71 : act.tmps[71]?.getD undef = .bool ((((((((t0 && t1) && t2) && t3) && t4) && t5) && t6) && t7) && t8) := hI.has 68 71 rfl (hall ⟨68, .data⟩ (by simp) rfl)
      clear hI hall hnot hcl
      refine .inl ⟨wanted_none rfl, ?_⟩
      unfold Oper.wp
      go_simp
      all_goals exact ⟨_, rfl, rfl, ⟨_, rfl⟩⟩
    · simp at hq; subst hq
      have gg : act.tmps[72]?.getD undef = .bool (((((((((t0 && t1) && t2) && t3) && t4) && t5) && t6) && t7) && t8)) := hI.has 69 72 rfl (hall ⟨69, .guard⟩ (by simp) rfl)
      rcases Bool.eq_false_or_eq_true (((((((((t0 && t1) && t2) && t3) && t4) && t5) && t6) && t7) && t8)) with hc | hc
      case inr =>
        exact .inr ⟨(wanted_of rfl rfl (gg.trans (by rw [hc]))).trans rfl, Gd.no hc, ⟨_, rfl⟩⟩
      have g0 : act.tmps[0]?.getD undef = .pointer (some ⟨B, 11, none⟩) := hI.kept 0 (by kernel_rfl)
      clear hI hall hnot hcl
      refine .inl ⟨(wanted_of rfl rfl (gg.trans (by rw [hc]))).trans rfl, ?_⟩
      clear gg
      unfold Oper.wp
      go_simp
      all_goals exact ⟨_, rfl, Gd.yes (by first | rfl | exact hc) rfl, ⟨_, rfl⟩⟩
    · simp at hq; subst hq
      have gg : act.tmps[72]?.getD undef = .bool (((((((((t0 && t1) && t2) && t3) && t4) && t5) && t6) && t7) && t8)) := hI.has 69 72 rfl (hall ⟨69, .guard⟩ (by simp) rfl)
      rcases Bool.eq_false_or_eq_true (((((((((t0 && t1) && t2) && t3) && t4) && t5) && t6) && t7) && t8)) with hc | hc
      case inr =>
        exact .inr ⟨(wanted_of rfl rfl (gg.trans (by rw [hc]))).trans rfl, Gd.no hc, ⟨_, rfl⟩⟩
      have g73 : act.tmps[73]?.getD undef = .pointer (some ⟨B, 11, none⟩) := Gd.get (hI.has 70 73 rfl (hall ⟨70, .data⟩ (by simp) rfl)) hc
      clear hI hall hnot hcl
      refine .inl ⟨(wanted_of rfl rfl (gg.trans (by rw [hc]))).trans rfl, ?_⟩
      clear gg
      unfold Oper.wp
      go_simp
      all_goals exact ⟨_, rfl, Gd.yes (by first | rfl | exact hc) rfl, ⟨_, rfl⟩⟩
    · simp at hq; subst hq
      have gg : act.tmps[72]?.getD undef = .bool (((((((((t0 && t1) && t2) && t3) && t4) && t5) && t6) && t7) && t8)) := hI.has 69 72 rfl (hall ⟨69, .guard⟩ (by simp) rfl)
      rcases Bool.eq_false_or_eq_true (((((((((t0 && t1) && t2) && t3) && t4) && t5) && t6) && t7) && t8)) with hc | hc
      case inr =>
        exact .inr ⟨(wanted_of rfl rfl (gg.trans (by rw [hc]))).trans rfl, Gd.no hc, ⟨_, rfl⟩⟩
      have g74 : act.tmps[74]?.getD undef = .pointer (some ⟨B, 11, none⟩) := Gd.get (hI.has 71 74 rfl (hall ⟨71, .data⟩ (by simp) rfl)) hc
      clear hI hall hnot hcl
      refine .inl ⟨(wanted_of rfl rfl (gg.trans (by rw [hc]))).trans rfl, ?_⟩
      clear gg
      unfold Oper.wp
      go_simp
      all_goals exact ⟨_, rfl, Gd.yes (by first | rfl | exact hc) rfl, ⟨_, rfl⟩⟩
    · simp at hq; subst hq
      have gg : act.tmps[72]?.getD undef = .bool (((((((((t0 && t1) && t2) && t3) && t4) && t5) && t6) && t7) && t8)) := hI.has 69 72 rfl (hall ⟨69, .guard⟩ (by simp) rfl)
      rcases Bool.eq_false_or_eq_true (((((((((t0 && t1) && t2) && t3) && t4) && t5) && t6) && t7) && t8)) with hc | hc
      case inr =>
        exact .inr ⟨(wanted_of rfl rfl (gg.trans (by rw [hc]))).trans rfl, Gd.no hc, ⟨_, rfl⟩⟩
      have g75 : act.tmps[75]?.getD undef = .pointer (some ⟨B, 18, none⟩) := Gd.get (hI.has 72 75 rfl (hall ⟨72, .data⟩ (by simp) rfl)) hc
      clear hI hall hnot hcl
      refine .inl ⟨(wanted_of rfl rfl (gg.trans (by rw [hc]))).trans rfl, ?_⟩
      clear gg
      unfold Oper.wp
      go_simp
      all_goals exact ⟨_, rfl, Gd.yes (by first | rfl | exact hc) rfl, ⟨_, rfl⟩⟩
    · simp at hq; subst hq
      have gg : act.tmps[72]?.getD undef = .bool (((((((((t0 && t1) && t2) && t3) && t4) && t5) && t6) && t7) && t8)) := hI.has 69 72 rfl (hall ⟨69, .guard⟩ (by simp) rfl)
      rcases Bool.eq_false_or_eq_true (((((((((t0 && t1) && t2) && t3) && t4) && t5) && t6) && t7) && t8)) with hc | hc
      case inr =>
        exact .inr ⟨(wanted_of rfl rfl (gg.trans (by rw [hc]))).trans rfl, Gd.no hc, ⟨_, rfl⟩⟩
      have g76 : act.tmps[76]?.getD undef = .float .f32 p7 := Gd.get (hI.has 73 76 rfl (hall ⟨73, .data⟩ (by simp) rfl)) hc
      clear hI hall hnot hcl
      refine .inl ⟨(wanted_of rfl rfl (gg.trans (by rw [hc]))).trans rfl, ?_⟩
      clear gg
      unfold Oper.wp
      go_simp
      refine (Q9 _).out.mono ?_
      rintro e w4 ⟨n4, rfl, rfl⟩
      exact ⟨_, rfl, Gd.yes (by first | rfl | exact hc) rfl, hdd _ _⟩
    · simp at hq; subst hq
      have g72 : act.tmps[72]?.getD undef = .bool ((((((((t0 && t1) && t2) && t3) && t4) && t5) && t6) && t7) && t8) := hI.has 69 72 rfl (hall ⟨69, .data⟩ (by simp) rfl)
      have G77 := hI.has 74 77 rfl (hall ⟨74, .data⟩ (by simp) rfl)
      clear hI hall hnot hcl
      refine .inl ⟨wanted_none rfl, ?_⟩
      unfold Oper.wp
      rcases Bool.eq_false_or_eq_true (((((((((t0 && t1) && t2) && t3) && t4) && t5) && t6) && t7) && t8)) with hc | hc
      · rw [hc] at g72
        have g77 := Gd.get G77 hc
        clear G77
        go_simp
        all_goals exact ⟨_, rfl, by first | rfl | (rw [hc]; rfl), ⟨_, rfl⟩⟩
      · rw [hc] at g72
        have g77 := Gd.un G77 hc
        clear G77
        go_simp
        all_goals exact ⟨_, rfl, by first | rfl | (rw [hc]; rfl), ⟨_, rfl⟩⟩
    · simp at hq; subst hq
      have g78 : act.tmps[78]?.getD undef = .bool (((((((((t0 && t1) && t2) && t3) && t4) && t5) && t6) && t7) && t8) && t9) := hI.has 75 78 rfl (hall ⟨75, .data⟩ (by simp) rfl)
      clear hI hall hnot hcl
      refine .inl ⟨wanted_none rfl, ?_⟩
      unfold Oper.wp
      go_simp
      all_goals exact ⟨_, rfl, rfl, ⟨_, rfl⟩⟩
    · simp at hq
  case hend =>
    intro listed act w3 hI hall
    obtain ⟨nn, rfl⟩ := hI.cls
    have g2 : act.tmps[2]?.getD undef = .bool (((((((((t0 && t1) && t2) && t3) && t4) && t5) && t6) && t7) && t8) && t9) := hI.has 76 2 rfl (hall 76 (by decide))
    have hd := hI.defers
    clear hI hall
    go_wp2
    refine bodyPost_ret (v := .bool (((((((((t0 && t1) && t2) && t3) && t4) && t5) && t6) && t7) && t8) && t9)) (by simp [results, Try.results192, g2, go_sem]) (by first | rfl | exact hd) ?_
    first | refine ⟨?_, nn, rfl⟩ | refine ⟨nn, ?_, rfl⟩
    rw [HE.out]
    simp only [Bool.and_assoc]
set_option maxHeartbeats 8000000 in
theorem s_l06IsD (X Y : Option Addr) (cx cy : Nat) (fx fy : List Nat) (fr fd fs : Nat) (B : Nat) (w : World) (h : Rs w X Y fx fy) (hn : FewS fx fy) (hk : w.cell? ⟨B, 23, none⟩ = some (.slice X fx.length cx) ∧ w.cell? ⟨B, 24, none⟩ = some (.slice Y fy.length cy) ∧ w.cell? ⟨B, 25, none⟩ = some (.float .f32 fr) ∧ w.cell? ⟨B, 26, none⟩ = some (.float .f32 fd) ∧ w.cell? ⟨B, 27, none⟩ = some (.float .f32 fs)) :
    Calls Try.prog 127 #[.pointer (some ⟨B, 23, none⟩)] w fun e w' => e = .returned (.bool (frmV fx fy fr fd fs)) ∧ ∃ n, w' = w.drewN n := by
  unfold FewS at hn
  have HP := Lib.hid h; clear h
  obtain ⟨k0, k1, k2, k3, k4⟩ := hk
  by_cases h1 : fx.length < 1
  · have HY : Hid (frmV fx fy fr fd fs = false) := Lib.hid (frmV_no (fun hh => by have := hh.1; omega))
    go_enter Try.func127, Try.ntmps127
    go_wp2
    go_ret
    exact ⟨by rw [HY.out]; rfl, 0, rfl⟩
  · by_cases h2 : 12 < fx.length
    · have HY : Hid (frmV fx fy fr fd fs = false) := Lib.hid (frmV_no (fun hh => by have := hh.2.1; omega))
      go_enter Try.func127, Try.ntmps127
      go_wp2
      go_ret
      exact ⟨by rw [HY.out]; rfl, 0, rfl⟩
    · by_cases h3 : fy.length = fx.length
      · have e1 : ((fy.length : Int) != (fx.length : Int)) = false := by simp; omega
        have HS : Hid (sizedF fx fy) := Lib.hid ⟨by omega, by omega, h3⟩
        have h3' : fx.length ≤ fy.length := by omega
        clear h3
        go_enter Try.func127, Try.ntmps127
        go_wp2_with fail
        refine (s_l02Above _ _).mono ?_
        rintro e w' ⟨m1, rfl, rfl⟩
        cases p1 : posi fr
        · skip
          have HN : Hid (frmV fx fy fr fd fs = false) := Lib.hid (frmV_noN (by simp [frmN, within, p1]))
          go_wp2
          go_ret
          exact ⟨by rw [HN.out]; rfl, _, by first | rfl | (simp only [World.drewN_drewN]; rfl)⟩
        · skip
          have PF := posi_fin p1
          have PG := gtr_not_leq (isn_of_fin PF) k1000
          clear PF
          cases p2 : leq32 fr 1148846080
          · rw [p2] at PG
            unfold gtr32 at PG
            have HN : Hid (frmV fx fy fr fd fs = false) := Lib.hid (frmV_noN (by simp [frmN, within, p1, p2]))
            go_wp2
            go_ret
            exact ⟨by rw [HN.out]; rfl, _, by first | rfl | (simp only [World.drewN_drewN]; rfl)⟩
          · rw [p2] at PG
            unfold gtr32 at PG
            go_wp2_with fail
            refine (s_l02Above _ _).mono ?_
            rintro e w' ⟨m2, rfl, rfl⟩
            clear PG
            cases p3 : posi fs
            · skip
              have HN : Hid (frmV fx fy fr fd fs = false) := Lib.hid (frmV_noN (by simp [frmN, within, p1, p2, p3]))
              go_wp2
              go_ret
              exact ⟨by rw [HN.out]; rfl, _, by first | rfl | (simp only [World.drewN_drewN]; rfl)⟩
            · skip
              cases p4 : geq32 fd 0
              · have q4 := p4
                unfold geq32 at q4
                have HN : Hid (frmV fx fy fr fd fs = false) := Lib.hid (frmV_noN (by simp [frmN, within, p1, p2, p3, p4]))
                go_wp2
                go_ret
                exact ⟨by rw [HN.out]; rfl, _, by first | rfl | (simp only [World.drewN_drewN]; rfl)⟩
              · have q4 := p4
                unfold geq32 at q4
                cases p5 : leq32 fd 1056964608
                · have q5 := p5
                  unfold leq32 at q5
                  have HN : Hid (frmV fx fy fr fd fs = false) := Lib.hid (frmV_noN (by simp [frmN, within, p1, p2, p3, p4, p5]))
                  go_wp2
                  go_ret
                  exact ⟨by rw [HN.out]; rfl, _, by first | rfl | (simp only [World.drewN_drewN]; rfl)⟩
                · have q5 := p5
                  unfold leq32 at q5
                  have HY : Hid (frmV fx fy fr fd fs = twoF fx fy fx.length) := Lib.hid (frmV_two HS.out (by simp [frmN, within, p1, p2, p3, p4, p5]))
                  clear p1 p2 p3 p4 p5
                  go_wp2
                  clear q4 q5 e1
                  go_loopw [4] (fun i wr => ∃ k n : Nat, k ≤ fx.length ∧ i = .int .i64 k ∧ Hid (twoF fx fy k = true) ∧ wr = w.drewN n) (fun i _ => fx.length - (intOf i).toNat)
                  case atStart => exact ⟨0, _, Nat.zero_le _, rfl, rfl, by first | rfl | (simp only [World.drewN_drewN]; rfl)⟩
                  case round =>
                    obtain ⟨k, n, hk, rfl, hr, rfl⟩ := hrel
                    by_cases hlt : k < fx.length
                    · obtain ⟨b, off, rfl, hb, hc⟩ := HP.out.1.at_ hlt
                      obtain ⟨bl, ol, rfl, hbl, hcl⟩ := HP.out.2.at_ (show k < fy.length by omega)
                      have hltl : k < fy.length := by omega
                      have HNo : Hid (twoF fx fy (k + 1) = false → frmV fx fy fr fd fs = false) := Lib.hid (fun h => by rw [HY.out]; exact twoF_no h (by omega))
                      have HA : Hid (twoF fx fy (k + 1) = (nearF (fx.getD k 0) && nearF (fy.getD k 0))) := Lib.hid (by show (twoF fx fy k && _) = _; rw [hr.out]; rfl)
                      obtain ⟨x, hx⟩ : ∃ x, x = fx.getD k 0 := ⟨_, rfl⟩
                      obtain ⟨y, hy⟩ : ∃ x, x = fy.getD k 0 := ⟨_, rfl⟩
                      rw [← hx] at hc
                      rw [← hy] at hcl
                      have HX := Lib.hid hx; clear hx hb
                      have HYY := Lib.hid hy; clear hy hbl
                      go_wp2_with fail
                      refine (s_l06Near _ _).mono ?_
                      rintro e w' ⟨rfl, rfl⟩
                      cases p1 : nearF x
                      · have HN : Hid (frmV fx fy fr fd fs = false) := Lib.hid (HNo.out (by rw [HA.out, ← HX.out, p1]; rfl))
                        go_wp2
                        go_ret
                        exact ⟨by rw [HN.out]; rfl, _, by first | rfl | (simp only [World.drewN_drewN]; rfl)⟩
                      · go_wp2_with fail
                        refine (s_l06Near _ _).mono ?_
                        rintro e w' ⟨rfl, rfl⟩
                        cases p2 : nearF y
                        · have HN : Hid (frmV fx fy fr fd fs = false) := Lib.hid (HNo.out (by rw [HA.out, ← HYY.out, p2]; simp))
                          go_wp2
                          go_ret
                          exact ⟨by rw [HN.out]; rfl, _, by first | rfl | (simp only [World.drewN_drewN]; rfl)⟩
                        · have HG : Hid (twoF fx fy (k + 1) = true) := Lib.hid (by rw [HA.out, ← HX.out, ← HYY.out, p1, p2]; rfl)
                          go_wp2
                          go_roundw
                          case rel => exact ⟨k + 1, _, by omega, by go_num, HG, by first | rfl | (simp only [World.drewN_drewN]; rfl)⟩
                          case measure => simp [intOf]; omega
                    · have hkk : k = fx.length := by omega
                      subst hkk
                      have HN : Hid (frmV fx fy fr fd fs = true) := Lib.hid (by rw [HY.out, hr.out])
                      go_wp2
                      go_ret
                      exact ⟨by rw [HN.out]; rfl, n, rfl⟩
      · have e1 : ((fy.length : Int) != (fx.length : Int)) = true := by rw [bne_iff_ne]; omega
        have HY : Hid (frmV fx fy fr fd fs = false) := Lib.hid (frmV_no (fun hh => h3 hh.2.2))
        clear h3
        go_enter Try.func127, Try.ntmps127
        go_wp2
        go_ret
        exact ⟨by rw [HY.out]; rfl, 0, rfl⟩
end Go.Proofs.Ytiiiigldpbomkaa
