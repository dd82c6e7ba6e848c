/- The text of a drive, both sides. No statement is proved here. -/
import Derived.Test.YtpjgmfkjpkeohaaDoorAirT
import Derived.Test.YtpjgmfkjpkeohaaDoorFrmT
import Derived.Test.YtpjgmfkjpkeohaaDoorDrv
import Derived.Test.YtpjgmfkjpkeohaaDoorDec
import Derived.Test.YtpjgmfkjpkeohaaDoorInv4
namespace Go.Proofs.YtpjgmfkjpkeohaaDoor
open Go Go.RowKit
/-- the text of a drive -/
def drvS (p0 p1 p2 p3 p4 p5 p6 p7 : Nat) (st : Int) (sp pi en : Nat) : ByteArray := textS [p0, p1, p2, p3, p4, p5, p6, p7] ++ ⟨#[59]⟩ ++ decS st ++ ⟨#[59]⟩ ++ textS [sp, pi, en]
def drvT (p0 p1 p2 p3 p4 p5 p6 p7 : Nat) (st : Int) (sp pi en : Nat) : ByteArray := if driveV p0 p1 p2 p3 p4 p5 p6 p7 st sp pi en then drvS p0 p1 p2 p3 p4 p5 p6 p7 st sp pi en else ⟨#[]⟩
theorem len8 {p0 p1 p2 p3 p4 p5 p6 p7 : Nat} : [p0, p1, p2, p3, p4, p5, p6, p7].length ≤ 256 := by simp
theorem blkL12 {w : World} {B : Nat} {v0 v1 v2 v3 v4 v5 v6 v7 v8 v9 v10 v11 : Value} (h : BlkL w B [v0, v1, v2, v3, v4, v5, v6, v7, v8, v9, v10, v11]) : w.cell? ⟨B, 0, none⟩ = some v0 ∧ w.cell? ⟨B, 1, none⟩ = some v1 ∧ w.cell? ⟨B, 2, none⟩ = some v2 ∧ w.cell? ⟨B, 3, none⟩ = some v3 ∧ w.cell? ⟨B, 4, none⟩ = some v4 ∧ w.cell? ⟨B, 5, none⟩ = some v5 ∧ w.cell? ⟨B, 6, none⟩ = some v6 ∧ w.cell? ⟨B, 7, none⟩ = some v7 ∧ w.cell? ⟨B, 8, none⟩ = some v8 ∧ w.cell? ⟨B, 9, none⟩ = some v9 ∧ w.cell? ⟨B, 10, none⟩ = some v10 ∧ w.cell? ⟨B, 11, none⟩ = some v11 :=
  ⟨(h.2 0 _ rfl).1, (h.2 1 _ rfl).1, (h.2 2 _ rfl).1, (h.2 3 _ rfl).1, (h.2 4 _ rfl).1, (h.2 5 _ rfl).1, (h.2 6 _ rfl).1, (h.2 7 _ rfl).1, (h.2 8 _ rfl).1, (h.2 9 _ rfl).1, (h.2 10 _ rfl).1, (h.2 11 _ rfl).1⟩
set_option maxHeartbeats 8000000 in
set_option maxRecDepth 100000 in
theorem i_driveText (p0 p1 p2 p3 p4 p5 p6 p7 : Nat) (st : Int) (sp pi en : Nat) (w : World) (hw : (∀ x ∈ [p0, p1, p2, p3, p4, p5, p6, p7], canon .f32 x < 4294967296) ∧ (∀ x ∈ [sp, pi, en], canon .f32 x < 4294967296)) (hi : -9223372036854775808 ≤ st ∧ st ≤ 9223372036854775807) (hT : T64 w ∧ T10 w) :
    Calls Tryd.prog 70 #[.agg #[.float .f32 p0, .float .f32 p1, .float .f32 p2, .float .f32 p3, .float .f32 p4, .float .f32 p5, .float .f32 p6, .float .f32 p7, .int .i64 st, .float .f32 sp, .float .f32 pi, .float .f32 en]] w fun e w' => e = .returned (.string (drvS p0 p1 p2 p3 p4 p5 p6 p7 st sp pi en)) ∧ Below w.heap.size w w' := by
  have HB0 : Hid (Below w.heap.size w (w.alloc (.cells #[.float .f32 p0, .float .f32 p1, .float .f32 p2, .float .f32 p3, .float .f32 p4, .float .f32 p5, .float .f32 p6, .float .f32 p7, .int .i64 st, .float .f32 sp, .float .f32 pi, .float .f32 en] 57))) := Lib.hid ((Below.refl _ _).alloc (Nat.le_refl _) _)
  have HK : Hid (BlkL (w.alloc (.cells #[.float .f32 p0, .float .f32 p1, .float .f32 p2, .float .f32 p3, .float .f32 p4, .float .f32 p5, .float .f32 p6, .float .f32 p7, .int .i64 st, .float .f32 sp, .float .f32 pi, .float .f32 en] 57)) w.heap.size [.float .f32 p0, .float .f32 p1, .float .f32 p2, .float .f32 p3, .float .f32 p4, .float .f32 p5, .float .f32 p6, .float .f32 p7, .int .i64 st, .float .f32 sp, .float .f32 pi, .float .f32 en]) := Lib.hid (blkL_at w #[.float .f32 p0, .float .f32 p1, .float .f32 p2, .float .f32 p3, .float .f32 p4, .float .f32 p5, .float .f32 p6, .float .f32 p7, .int .i64 st, .float .f32 sp, .float .f32 pi, .float .f32 en] _ rfl)
  obtain ⟨w0, hw0⟩ : ∃ z, z = w.alloc (.cells #[.float .f32 p0, .float .f32 p1, .float .f32 p2, .float .f32 p3, .float .f32 p4, .float .f32 p5, .float .f32 p6, .float .f32 p7, .int .i64 st, .float .f32 sp, .float .f32 pi, .float .f32 en] 57) := ⟨_, rfl⟩
  rw [← hw0] at HB0 HK
  obtain ⟨BB, hBB⟩ : ∃ z, z = w.heap.size := ⟨_, rfl⟩
  rw [← hBB] at HK
  have HCA : Hid (∀ W g, Below w0.heap.size w0 W → Fl W (some ⟨g, 0, none⟩) [p0, p1, p2, p3, p4, p5, p6, p7] → Calls Tryd.prog 97 #[.slice (some ⟨g, 0, none⟩) 8 8] W fun e w' => e = .returned (.string (textS [p0, p1, p2, p3, p4, p5, p6, p7])) ∧ Below W.heap.size W w') := Lib.hid (fun W g hb hf => i_numbersText _ 8 [p0, p1, p2, p3, p4, p5, p6, p7] W hf len8 hw.1 (hT.1.below (below_of HB0.out HB0.out.size hb)))
  have zA : (textS [p0, p1, p2, p3, p4, p5, p6, p7]).size ≤ 3000 := by have h1 := textS_size [p0, p1, p2, p3, p4, p5, p6, p7]; have h2 : [p0, p1, p2, p3, p4, p5, p6, p7].length ≤ 256 := len8; omega
  have HCB : Hid (∀ W, Below w0.heap.size w0 W → Calls Tryd.prog 104 #[.int .i64 st] W fun e w' => e = .returned (.string (decS st)) ∧ Below W.heap.size W w') := Lib.hid (fun W hb => i_Decimal st W hi.1 hi.2 (hT.2.below (below_of HB0.out HB0.out.size hb)))
  have zB : (decS st).size ≤ 3000 := Nat.le_trans (itoa_size st hi.1 hi.2) (by decide)
  have HCC : Hid (∀ W g, Below w0.heap.size w0 W → Fl W (some ⟨g, 0, none⟩) [sp, pi, en] → Calls Tryd.prog 97 #[.slice (some ⟨g, 0, none⟩) 3 3] W fun e w' => e = .returned (.string (textS [sp, pi, en])) ∧ Below W.heap.size W w') := Lib.hid (fun W g hb hf => i_numbersText _ 3 [sp, pi, en] W hf (len3 ..) hw.2 (hT.1.below (below_of HB0.out HB0.out.size hb)))
  have zC : (textS [sp, pi, en]).size ≤ 3000 := by have h1 := textS_size [sp, pi, en]; have h2 : [sp, pi, en].length ≤ 256 := (len3 ..); omega
  have HS : Hid (drvS p0 p1 p2 p3 p4 p5 p6 p7 st sp pi en = textS [p0, p1, p2, p3, p4, p5, p6, p7] ++ ⟨#[59]⟩ ++ decS st ++ ⟨#[59]⟩ ++ textS [sp, pi, en]) := rfl
  generalize drvS p0 p1 p2 p3 p4 p5 p6 p7 st sp pi en = res at HS ⊢
  generalize textS [p0, p1, p2, p3, p4, p5, p6, p7] = TA at HCA zA HS
  generalize decS st = TB at HCB zB HS
  generalize textS [sp, pi, en] = TC at HCC zC HS
  clear hw hi hT
  go_enter Tryd.func70, Tryd.ntmps70
  go_wp2_with fail
  rw [← hw0]
  rw [← hBB]
  clear hw0 hBB
  refine wp_region_inv4 (fun iq wv v => match iq with
    | 0 => v = .pointer (some ⟨BB, 0, none⟩)
    | 1 => v = .agg #[.float .f32 p0, .float .f32 p1, .float .f32 p2, .float .f32 p3, .float .f32 p4, .float .f32 p5, .float .f32 p6, .float .f32 p7]
    | 2 => ∃ q, v = .slice (some ⟨q, 0, none⟩) 8 8 ∧ Fl wv (some ⟨q, 0, none⟩) [p0, p1, p2, p3, p4, p5, p6, p7]
    | 3 => v = .string TA
    | 4 => v = .string (TA ++ (⟨#[59]⟩))
    | 5 => v = .pointer (some ⟨BB, 8, none⟩)
    | 6 => v = .int .i64 st
    | 7 => v = .string TB
    | 8 => v = .string (((TA ++ (⟨#[59]⟩))) ++ TB)
    | 9 => v = .string (((((TA ++ (⟨#[59]⟩))) ++ TB)) ++ (⟨#[59]⟩))
    | 10 => v = .pointer (some ⟨BB, 9, none⟩)
    | 11 => v = .float .f32 sp
    | 12 => v = .pointer (some ⟨BB, 10, none⟩)
    | 13 => v = .float .f32 pi
    | 14 => v = .pointer (some ⟨BB, 11, none⟩)
    | 15 => v = .float .f32 en
    | 16 => ∃ q, v = .slice (some ⟨q, 0, none⟩) 3 3 ∧ Fl wv (some ⟨q, 0, none⟩) [sp, pi, en]
    | 17 => v = .string TC
    | 18 => v = .string (((((((TA ++ (⟨#[59]⟩))) ++ TB)) ++ (⟨#[59]⟩))) ++ TC)
    | 19 => v = .string (((((((TA ++ (⟨#[59]⟩))) ++ TB)) ++ (⟨#[59]⟩))) ++ TC)
    | _ => False) (fun _ ww => Below w0.heap.size w0 ww) (fun w w' => Below w.heap.size w w') ?hmono (by kernel_rfl) (by kernel_rfl) ((Below.refl _ _).drew) ?hop ?hend
  case hmono =>
    intro i wa wb v hR hV
    rcases i with _ | _ | _ | _ | _ | _ | _ | _ | _ | _ | _ | _ | _ | _ | _ | _ | _ | _ | _ | _ | i
    · exact hV
    · exact hV
    · obtain ⟨q, rfl, ho⟩ := hV; exact ⟨q, rfl, ho.below hR⟩
    · exact hV
    · exact hV
    · exact hV
    · exact hV
    · exact hV
    · exact hV
    · exact hV
    · exact hV
    · exact hV
    · exact hV
    · exact hV
    · exact hV
    · exact hV
    · obtain ⟨q, rfl, ho⟩ := hV; exact ⟨q, rfl, ho.below hR⟩
    · exact hV
    · exact hV
    · exact hV
    · exact hV
  case hop =>
    intro q o hq listed act w3 hI hnot hcl hall
    have hB := hI.cls
    obtain ⟨k0, k1, k2, k3, k4, k5, k6, k7, k8, k9, k10, k11⟩ := blkL12 (HK.out.below hB)
    rcases q with _ | _ | _ | _ | _ | _ | _ | _ | _ | _ | _ | _ | _ | _ | _ | _ | _ | _ | _ | _ | q
    · simp at hq; subst hq
      have g1 : act.tmps[1]?.getD undef = .pointer (some ⟨BB, 0, none⟩) := hI.kept 1 (by kernel_rfl)
      clear hI hall hnot hcl
      refine .inl ⟨wanted_none rfl, ?_⟩
      unfold Oper.wp
      go_simp
      all_goals first | exact ⟨_, rfl, Below.refl _ _, rfl, hB⟩ | exact ⟨Below.refl _ _, hB⟩ | exact Below.refl _ _
    · simp at hq; subst hq
      have g3 : act.tmps[3]?.getD undef = .pointer (some ⟨BB, 0, none⟩) := hI.has 0 3 rfl (hall ⟨0, .data⟩ (by simp) rfl)
      clear hI hall hnot hcl
      refine .inl ⟨wanted_none rfl, ?_⟩
      unfold Oper.wp
      go_simp
      all_goals first | exact ⟨_, rfl, Below.refl _ _, rfl, hB⟩ | exact ⟨Below.refl _ _, hB⟩ | exact Below.refl _ _
    · simp at hq; subst hq
      have g4 : act.tmps[4]?.getD undef = .agg #[.float .f32 p0, .float .f32 p1, .float .f32 p2, .float .f32 p3, .float .f32 p4, .float .f32 p5, .float .f32 p6, .float .f32 p7] := hI.has 1 4 rfl (hall ⟨1, .data⟩ (by simp) rfl)
      clear hI hall hnot hcl
      refine .inl ⟨wanted_none rfl, ?_⟩
      unfold Oper.wp
      go_simp
      refine (i_numbers p0 p1 p2 p3 p4 p5 p6 p7 _).mono ?_
      rintro e w4 ⟨q, rfl, hf, b4⟩
      first | exact ⟨_, rfl, b4, ⟨_, rfl, hf⟩, below_of hB hB.size b4⟩ | exact ⟨_, rfl, b4, ⟨_, rfl, hf⟩⟩
    · simp at hq; subst hq
      obtain ⟨q2, g5, h2a⟩ := hI.has 2 5 rfl (hall ⟨2, .data⟩ (by simp) rfl)
      clear hI hall hnot hcl
      refine .inl ⟨wanted_none rfl, ?_⟩
      unfold Oper.wp
      go_simp
      refine (HCA.out _ q2 hB h2a).mono ?_
      rintro e w4 ⟨rfl, b4⟩
      exact ⟨_, rfl, b4, rfl, below_of hB hB.size b4⟩
    · simp at hq; subst hq
      have g6 : act.tmps[6]?.getD undef = .string TA := hI.has 3 6 rfl (hall ⟨3, .data⟩ (by simp) rfl)
      clear hI hall hnot hcl
      refine .inl ⟨wanted_none rfl, ?_⟩
      unfold Oper.wp
      go_simp
      rw [if_neg (by omega)]
      go_simp
      all_goals first | exact ⟨_, rfl, Below.refl _ _, rfl, hB⟩ | exact ⟨Below.refl _ _, hB⟩ | exact Below.refl _ _
    · simp at hq; subst hq
      have g1 : act.tmps[1]?.getD undef = .pointer (some ⟨BB, 0, none⟩) := hI.kept 1 (by kernel_rfl)
      clear hI hall hnot hcl
      refine .inl ⟨wanted_none rfl, ?_⟩
      unfold Oper.wp
      go_simp
      all_goals first | exact ⟨_, rfl, Below.refl _ _, rfl, hB⟩ | exact ⟨Below.refl _ _, hB⟩ | exact Below.refl _ _
    · simp at hq; subst hq
      have g8 : act.tmps[8]?.getD undef = .pointer (some ⟨BB, 8, none⟩) := hI.has 5 8 rfl (hall ⟨5, .data⟩ (by simp) rfl)
      clear hI hall hnot hcl
      refine .inl ⟨wanted_none rfl, ?_⟩
      unfold Oper.wp
      go_simp
      all_goals first | exact ⟨_, rfl, Below.refl _ _, rfl, hB⟩ | exact ⟨Below.refl _ _, hB⟩ | exact Below.refl _ _
    · simp at hq; subst hq
      have g9 : act.tmps[9]?.getD undef = .int .i64 st := hI.has 6 9 rfl (hall ⟨6, .data⟩ (by simp) rfl)
      clear hI hall hnot hcl
      refine .inl ⟨wanted_none rfl, ?_⟩
      unfold Oper.wp
      go_simp
      refine (HCB.out _ hB).mono ?_
      rintro e w4 ⟨rfl, b4⟩
      exact ⟨_, rfl, b4, rfl, below_of hB hB.size b4⟩
    · simp at hq; subst hq
      have g7 : act.tmps[7]?.getD undef = .string (TA ++ (⟨#[59]⟩)) := hI.has 4 7 rfl (hall ⟨4, .data⟩ (by simp) rfl)
      have g10 : act.tmps[10]?.getD undef = .string TB := hI.has 7 10 rfl (hall ⟨7, .data⟩ (by simp) rfl)
      clear hI hall hnot hcl
      refine .inl ⟨wanted_none rfl, ?_⟩
      unfold Oper.wp
      go_simp
      rw [if_neg (by omega)]
      go_simp
      all_goals first | exact ⟨_, rfl, Below.refl _ _, rfl, hB⟩ | exact ⟨Below.refl _ _, hB⟩ | exact Below.refl _ _
    · simp at hq; subst hq
      have g11 : act.tmps[11]?.getD undef = .string (((TA ++ (⟨#[59]⟩))) ++ TB) := hI.has 8 11 rfl (hall ⟨8, .data⟩ (by simp) rfl)
      clear hI hall hnot hcl
      refine .inl ⟨wanted_none rfl, ?_⟩
      unfold Oper.wp
      go_simp
      rw [if_neg (by omega)]
      go_simp
      all_goals first | exact ⟨_, rfl, Below.refl _ _, rfl, hB⟩ | exact ⟨Below.refl _ _, hB⟩ | exact Below.refl _ _
    · simp at hq; subst hq
      have g1 : act.tmps[1]?.getD undef = .pointer (some ⟨BB, 0, none⟩) := hI.kept 1 (by kernel_rfl)
      clear hI hall hnot hcl
      refine .inl ⟨wanted_none rfl, ?_⟩
      unfold Oper.wp
      go_simp
      all_goals first | exact ⟨_, rfl, Below.refl _ _, rfl, hB⟩ | exact ⟨Below.refl _ _, hB⟩ | exact Below.refl _ _
    · simp at hq; subst hq
      have g13 : act.tmps[13]?.getD undef = .pointer (some ⟨BB, 9, none⟩) := hI.has 10 13 rfl (hall ⟨10, .data⟩ (by simp) rfl)
      clear hI hall hnot hcl
      refine .inl ⟨wanted_none rfl, ?_⟩
      unfold Oper.wp
      go_simp
      all_goals first | exact ⟨_, rfl, Below.refl _ _, rfl, hB⟩ | exact ⟨Below.refl _ _, hB⟩ | exact Below.refl _ _
    · simp at hq; subst hq
      have g1 : act.tmps[1]?.getD undef = .pointer (some ⟨BB, 0, none⟩) := hI.kept 1 (by kernel_rfl)
      clear hI hall hnot hcl
      refine .inl ⟨wanted_none rfl, ?_⟩
      unfold Oper.wp
      go_simp
      all_goals first | exact ⟨_, rfl, Below.refl _ _, rfl, hB⟩ | exact ⟨Below.refl _ _, hB⟩ | exact Below.refl _ _
    · simp at hq; subst hq
      have g15 : act.tmps[15]?.getD undef = .pointer (some ⟨BB, 10, none⟩) := hI.has 12 15 rfl (hall ⟨12, .data⟩ (by simp) rfl)
      clear hI hall hnot hcl
      refine .inl ⟨wanted_none rfl, ?_⟩
      unfold Oper.wp
      go_simp
      all_goals first | exact ⟨_, rfl, Below.refl _ _, rfl, hB⟩ | exact ⟨Below.refl _ _, hB⟩ | exact Below.refl _ _
    · simp at hq; subst hq
      have g1 : act.tmps[1]?.getD undef = .pointer (some ⟨BB, 0, none⟩) := hI.kept 1 (by kernel_rfl)
      clear hI hall hnot hcl
      refine .inl ⟨wanted_none rfl, ?_⟩
      unfold Oper.wp
      go_simp
      all_goals first | exact ⟨_, rfl, Below.refl _ _, rfl, hB⟩ | exact ⟨Below.refl _ _, hB⟩ | exact Below.refl _ _
    · simp at hq; subst hq
      have g17 : act.tmps[17]?.getD undef = .pointer (some ⟨BB, 11, none⟩) := hI.has 14 17 rfl (hall ⟨14, .data⟩ (by simp) rfl)
      clear hI hall hnot hcl
      refine .inl ⟨wanted_none rfl, ?_⟩
      unfold Oper.wp
      go_simp
      all_goals first | exact ⟨_, rfl, Below.refl _ _, rfl, hB⟩ | exact ⟨Below.refl _ _, hB⟩ | exact Below.refl _ _
    · simp at hq; subst hq
      have g14 : act.tmps[14]?.getD undef = .float .f32 sp := hI.has 11 14 rfl (hall ⟨11, .data⟩ (by simp) rfl)
      have g16 : act.tmps[16]?.getD undef = .float .f32 pi := hI.has 13 16 rfl (hall ⟨13, .data⟩ (by simp) rfl)
      have g18 : act.tmps[18]?.getD undef = .float .f32 en := hI.has 15 18 rfl (hall ⟨15, .data⟩ (by simp) rfl)
      clear hI hall hnot hcl
      refine .inl ⟨wanted_none rfl, ?_⟩
      unfold Oper.wp
      go_simp
      first | exact ⟨_, rfl, (Below.refl _ _).alloc (Nat.le_refl _) _, ⟨_, rfl, fl_lit _ [sp, pi, en] _⟩, hB.alloc hB.size _⟩ | exact ⟨_, rfl, (Below.refl _ _).alloc (Nat.le_refl _) _, ⟨_, rfl, fl_lit _ [sp, pi, en] _⟩⟩
    · simp at hq; subst hq
      obtain ⟨q16, g19, h16a⟩ := hI.has 16 19 rfl (hall ⟨16, .data⟩ (by simp) rfl)
      clear hI hall hnot hcl
      refine .inl ⟨wanted_none rfl, ?_⟩
      unfold Oper.wp
      go_simp
      refine (HCC.out _ q16 hB h16a).mono ?_
      rintro e w4 ⟨rfl, b4⟩
      exact ⟨_, rfl, b4, rfl, below_of hB hB.size b4⟩
    · simp at hq; subst hq
      have g12 : act.tmps[12]?.getD undef = .string (((((TA ++ (⟨#[59]⟩))) ++ TB)) ++ (⟨#[59]⟩)) := hI.has 9 12 rfl (hall ⟨9, .data⟩ (by simp) rfl)
      have g20 : act.tmps[20]?.getD undef = .string TC := hI.has 17 20 rfl (hall ⟨17, .data⟩ (by simp) rfl)
      clear hI hall hnot hcl
      refine .inl ⟨wanted_none rfl, ?_⟩
      unfold Oper.wp
      go_simp
      rw [if_neg (by omega)]
      go_simp
      all_goals first | exact ⟨_, rfl, Below.refl _ _, rfl, hB⟩ | exact ⟨Below.refl _ _, hB⟩ | exact Below.refl _ _
    · simp at hq; subst hq
      have g21 : act.tmps[21]?.getD undef = .string (((((((TA ++ (⟨#[59]⟩))) ++ TB)) ++ (⟨#[59]⟩))) ++ TC) := hI.has 18 21 rfl (hall ⟨18, .data⟩ (by simp) rfl)
      clear hI hall hnot hcl
      refine .inl ⟨wanted_none rfl, ?_⟩
      unfold Oper.wp
      go_simp
      all_goals first | exact ⟨_, rfl, Below.refl _ _, rfl, hB⟩ | exact ⟨Below.refl _ _, hB⟩ | exact Below.refl _ _
    · simp at hq
  case hend =>
    intro listed act w3 hI hall
    have hB := hI.cls
    obtain ⟨k0, k1, k2, k3, k4, k5, k6, k7, k8, k9, k10, k11⟩ := blkL12 (HK.out.below hB)
    have g2 : act.tmps[2]?.getD undef = .string (((((((TA ++ (⟨#[59]⟩))) ++ TB)) ++ (⟨#[59]⟩))) ++ TC) := hI.has 19 2 rfl (hall 19 (by decide))
    have g0 := hI.kept 0 (by kernel_rfl)
    conv at g0 => rhs; whnf
    have g1 := hI.kept 1 (by kernel_rfl)
    conv at g1 => rhs; whnf
    have hsz : act.tmps.size = 22 := hI.size.trans (by kernel_rfl)
    have hd := hI.defers
    clear hI hall
    obtain ⟨tt, dd⟩ := act
    simp only at g0 g1 g2 hsz hd
    subst hd
    have hl : tt = #[tt[0]?.getD undef, tt[1]?.getD undef, tt[2]?.getD undef, tt[3]?.getD undef, tt[4]?.getD undef, tt[5]?.getD undef, tt[6]?.getD undef, tt[7]?.getD undef, tt[8]?.getD undef, tt[9]?.getD undef, tt[10]?.getD undef, tt[11]?.getD undef, tt[12]?.getD undef, tt[13]?.getD undef, tt[14]?.getD undef, tt[15]?.getD undef, tt[16]?.getD undef, tt[17]?.getD undef, tt[18]?.getD undef, tt[19]?.getD undef, tt[20]?.getD undef, tt[21]?.getD undef] := (arr_lit hsz).trans rfl
    rw [g0, g1, g2] at hl
    clear g0 g1 g2 hsz
    generalize tt[3]?.getD undef = y3 at hl
    generalize tt[4]?.getD undef = y4 at hl
    generalize tt[5]?.getD undef = y5 at hl
    generalize tt[6]?.getD undef = y6 at hl
    generalize tt[7]?.getD undef = y7 at hl
    generalize tt[8]?.getD undef = y8 at hl
    generalize tt[9]?.getD undef = y9 at hl
    generalize tt[10]?.getD undef = y10 at hl
    generalize tt[11]?.getD undef = y11 at hl
    generalize tt[12]?.getD undef = y12 at hl
    generalize tt[13]?.getD undef = y13 at hl
    generalize tt[14]?.getD undef = y14 at hl
    generalize tt[15]?.getD undef = y15 at hl
    generalize tt[16]?.getD undef = y16 at hl
    generalize tt[17]?.getD undef = y17 at hl
    generalize tt[18]?.getD undef = y18 at hl
    generalize tt[19]?.getD undef = y19 at hl
    generalize tt[20]?.getD undef = y20 at hl
    generalize tt[21]?.getD undef = y21 at hl
    subst hl
    go_wp2
    go_ret
    exact ⟨by rw [HS.out]; rfl, below_of HB0.out HB0.out.size hB⟩
set_option maxHeartbeats 8000000 in
set_option maxRecDepth 100000 in
theorem s_l08Drive (p0 p1 p2 p3 p4 p5 p6 p7 : Nat) (st : Int) (sp pi en : Nat) (BB : Nat) (w : World) (hk : BlkL w BB [.float .f32 p0, .float .f32 p1, .float .f32 p2, .float .f32 p3, .float .f32 p4, .float .f32 p5, .float .f32 p6, .float .f32 p7, .int .i64 st, .float .f32 sp, .float .f32 pi, .float .f32 en]) (hw : (∀ x ∈ [p0, p1, p2, p3, p4, p5, p6, p7], canon .f32 x < 4294967296) ∧ (∀ x ∈ [sp, pi, en], canon .f32 x < 4294967296)) (hi : -9223372036854775808 ≤ st ∧ st ≤ 9223372036854775807) :
    Calls Tryd.prog 66 #[.pointer (some ⟨BB, 0, none⟩)] w fun e w' => e = .returned (.string (drvS p0 p1 p2 p3 p4 p5 p6 p7 st sp pi en)) ∧ Below w.heap.size w w' := by
  have HK := Lib.hid hk
  have HB1 : Hid (Below w.heap.size w w.drew) := Lib.hid (Below.refl _ _).drew
  have HX : Hid (Below w.heap.size w (w.drew.alloc (.cells #[.float .f32 p0, .float .f32 p1, .float .f32 p2, .float .f32 p3, .float .f32 p4, .float .f32 p5, .float .f32 p6, .float .f32 p7] 33)) ∧ Calls Tryd.prog 91 #[.slice (some ⟨w.drew.heap.size, 0, none⟩) 8 8] (w.drew.alloc (.cells #[.float .f32 p0, .float .f32 p1, .float .f32 p2, .float .f32 p3, .float .f32 p4, .float .f32 p5, .float .f32 p6, .float .f32 p7] 33)) fun e w' => e = .returned (.string (textS [p0, p1, p2, p3, p4, p5, p6, p7])) ∧ Below (w.drew.alloc (.cells #[.float .f32 p0, .float .f32 p1, .float .f32 p2, .float .f32 p3, .float .f32 p4, .float .f32 p5, .float .f32 p6, .float .f32 p7] 33)).heap.size (w.drew.alloc (.cells #[.float .f32 p0, .float .f32 p1, .float .f32 p2, .float .f32 p3, .float .f32 p4, .float .f32 p5, .float .f32 p6, .float .f32 p7] 33)) w') :=
    Lib.hid ⟨HB1.out.alloc HB1.out.size _, s_l01NText _ 8 [p0, p1, p2, p3, p4, p5, p6, p7] _ (fl_lit w.drew [p0, p1, p2, p3, p4, p5, p6, p7] 33) len8 hw.1⟩
  have zA : (textS [p0, p1, p2, p3, p4, p5, p6, p7]).size ≤ 3000 := by have h1 := textS_size [p0, p1, p2, p3, p4, p5, p6, p7]; have h2 : [p0, p1, p2, p3, p4, p5, p6, p7].length ≤ 256 := len8; omega
  have HCB : Hid (∀ W, Calls Tryd.prog 100 #[.int .i64 st] W fun e w' => e = .returned (.string (decS st)) ∧ Below W.heap.size W w') := Lib.hid (fun W => s_l01Dec st W hi.1 hi.2)
  have zB : (decS st).size ≤ 3000 := Nat.le_trans (itoa_size st hi.1 hi.2) (by decide)
  have HCC : Hid (∀ W g, Fl W (some ⟨g, 0, none⟩) [sp, pi, en] → Calls Tryd.prog 91 #[.slice (some ⟨g, 0, none⟩) 3 3] W fun e w' => e = .returned (.string (textS [sp, pi, en])) ∧ Below W.heap.size W w') := Lib.hid (fun W g hf => s_l01NText _ 3 [sp, pi, en] W hf (len3 ..) hw.2)
  have zC : (textS [sp, pi, en]).size ≤ 3000 := by have h1 := textS_size [sp, pi, en]; have h2 : [sp, pi, en].length ≤ 256 := (len3 ..); omega
  have HS : Hid (drvS p0 p1 p2 p3 p4 p5 p6 p7 st sp pi en = textS [p0, p1, p2, p3, p4, p5, p6, p7] ++ ⟨#[59]⟩ ++ decS st ++ ⟨#[59]⟩ ++ textS [sp, pi, en]) := rfl
  generalize drvS p0 p1 p2 p3 p4 p5 p6 p7 st sp pi en = res at HS ⊢
  generalize textS [p0, p1, p2, p3, p4, p5, p6, p7] = TA at HX zA HS
  generalize decS st = TB at HCB zB HS
  generalize textS [sp, pi, en] = TC at HCC zC HS
  obtain ⟨k0, k1, k2, k3, k4, k5, k6, k7, k8, k9, k10, k11⟩ := blkL12 hk
  clear hw hi hk
  go_enter Tryd.func66, Tryd.ntmps66
  go_wp2_with fail
  refine wp_region_still_tail 32 (by kernel_rfl) (by kernel_rfl) ?_
  simp only [List.take_succ_cons, List.take_zero, List.drop_succ_cons, List.drop_zero]
  repeat (refine wpStill_step (fun K hK => ?_); go_simp; first | (refine hK _ ?_; clear hK K) | (refine ⟨rfl, hK _ ?_⟩; clear hK K))
  try refine wpStill_nil ?_
  change wpList _ _ _ _ _ w.drew
  clear k0 k1 k2 k3 k4 k5 k6 k7 k8 k9 k10 k11
  generalize w.drew = w1 at HX HB1 ⊢
  go_wp2_with fail
  refine HX.out.2.mono ?_
  rintro e w2 ⟨rfl, hb⟩
  have HB2 : Hid (Below w.heap.size w w2) := Lib.hid (below_of HX.out.1 HX.out.1.size hb)
  have HK2 : Hid (BlkL w2 BB [.float .f32 p0, .float .f32 p1, .float .f32 p2, .float .f32 p3, .float .f32 p4, .float .f32 p5, .float .f32 p6, .float .f32 p7, .int .i64 st, .float .f32 sp, .float .f32 pi, .float .f32 en]) := Lib.hid (HK.out.below HB2.out)
  clear hb HX HK
  go_wp2_with fail
  refine wp_region_inv4 (fun iq wv v => match iq with
    | 0 => v = .string TA
    | 1 => v = .string (TA ++ (⟨#[59]⟩))
    | 2 => v = .pointer (some ⟨BB, 0, none⟩)
    | 3 => v = .pointer (some ⟨BB, 0, none⟩)
    | 4 => v = .pointer (some ⟨BB, 8, none⟩)
    | 5 => v = .int .i64 st
    | 6 => v = .string TB
    | 7 => v = .string (((TA ++ (⟨#[59]⟩))) ++ TB)
    | 8 => v = .string (((((TA ++ (⟨#[59]⟩))) ++ TB)) ++ (⟨#[59]⟩))
    | 9 => v = .pointer (some ⟨BB, 0, none⟩)
    | 10 => v = .pointer (some ⟨BB, 0, none⟩)
    | 11 => v = .pointer (some ⟨BB, 9, none⟩)
    | 12 => v = .float .f32 sp
    | 13 => v = .pointer (some ⟨BB, 0, none⟩)
    | 14 => v = .pointer (some ⟨BB, 0, none⟩)
    | 15 => v = .pointer (some ⟨BB, 10, none⟩)
    | 16 => v = .float .f32 pi
    | 17 => v = .pointer (some ⟨BB, 0, none⟩)
    | 18 => v = .pointer (some ⟨BB, 0, none⟩)
    | 19 => v = .pointer (some ⟨BB, 11, none⟩)
    | 20 => v = .float .f32 en
    | 21 => ∃ q, v = .slice (some ⟨q, 0, none⟩) 3 3 ∧ Fl wv (some ⟨q, 0, none⟩) [sp, pi, en]
    | 22 => v = .string TC
    | 23 => v = .string (((((((TA ++ (⟨#[59]⟩))) ++ TB)) ++ (⟨#[59]⟩))) ++ TC)
    | 24 => v = .string (((((((TA ++ (⟨#[59]⟩))) ++ TB)) ++ (⟨#[59]⟩))) ++ TC)
    | _ => False) (fun _ ww => Below w2.heap.size w2 ww) (fun w w' => Below w.heap.size w w') ?hmono (by kernel_rfl) (by kernel_rfl) ((Below.refl _ _).drew) ?hop ?hend
  case hmono =>
    intro i wa wb v hR hV
    rcases i with _ | _ | _ | _ | _ | _ | _ | _ | _ | _ | _ | _ | _ | _ | _ | _ | _ | _ | _ | _ | _ | _ | _ | _ | _ | i
    · exact hV
    · exact hV
    · exact hV
    · exact hV
    · exact hV
    · exact hV
    · exact hV
    · exact hV
    · exact hV
    · exact hV
    · exact hV
    · exact hV
    · exact hV
    · exact hV
    · exact hV
    · exact hV
    · exact hV
    · exact hV
    · exact hV
    · exact hV
    · exact hV
    · obtain ⟨q, rfl, ho⟩ := hV; exact ⟨q, rfl, ho.below hR⟩
    · exact hV
    · exact hV
    · exact hV
    · exact hV
  case hop =>
    intro q o hq listed act w3 hI hnot hcl hall
    have hB := hI.cls
    obtain ⟨k0, k1, k2, k3, k4, k5, k6, k7, k8, k9, k10, k11⟩ := blkL12 (HK2.out.below hB)
    rcases q with _ | _ | _ | _ | _ | _ | _ | _ | _ | _ | _ | _ | _ | _ | _ | _ | _ | _ | _ | _ | _ | _ | _ | _ | _ | q
    · simp at hq; subst hq
      have g4 : act.tmps[4]?.getD undef = .string TA := hI.kept 4 (by kernel_rfl)
      clear hI hall hnot hcl
      refine .inl ⟨wanted_none rfl, ?_⟩
      unfold Oper.wp
      go_simp
      all_goals first | exact ⟨_, rfl, Below.refl _ _, rfl, hB⟩ | exact ⟨Below.refl _ _, hB⟩ | exact Below.refl _ _
    · simp at hq; subst hq
      have g42 : act.tmps[42]?.getD undef = .string TA := hI.has 0 42 rfl (hall ⟨0, .data⟩ (by simp) rfl)
      clear hI hall hnot hcl
      refine .inl ⟨wanted_none rfl, ?_⟩
      unfold Oper.wp
      go_simp
      rw [if_neg (by omega)]
      go_simp
      all_goals first | exact ⟨_, rfl, Below.refl _ _, rfl, hB⟩ | exact ⟨Below.refl _ _, hB⟩ | exact Below.refl _ _
    · simp at hq; subst hq
      have g0 : act.tmps[0]?.getD undef = .pointer (some ⟨BB, 0, none⟩) := hI.kept 0 (by kernel_rfl)
      clear hI hall hnot hcl
      refine .inl ⟨wanted_none rfl, ?_⟩
      unfold Oper.wp
      go_simp
      all_goals first | exact ⟨_, rfl, Below.refl _ _, rfl, hB⟩ | exact ⟨Below.refl _ _, hB⟩ | exact Below.refl _ _
    · simp at hq; subst hq
      have g44 : act.tmps[44]?.getD undef = .pointer (some ⟨BB, 0, none⟩) := hI.has 2 44 rfl (hall ⟨2, .data⟩ (by simp) rfl)
      clear hI hall hnot hcl
      refine .inl ⟨wanted_none rfl, ?_⟩
      unfold Oper.wp
      go_simp
      all_goals first | exact ⟨_, rfl, Below.refl _ _, rfl, hB⟩ | exact ⟨Below.refl _ _, hB⟩ | exact Below.refl _ _
    · simp at hq; subst hq
      have g45 : act.tmps[45]?.getD undef = .pointer (some ⟨BB, 0, none⟩) := hI.has 3 45 rfl (hall ⟨3, .data⟩ (by simp) rfl)
      clear hI hall hnot hcl
      refine .inl ⟨wanted_none rfl, ?_⟩
      unfold Oper.wp
      go_simp
      all_goals first | exact ⟨_, rfl, Below.refl _ _, rfl, hB⟩ | exact ⟨Below.refl _ _, hB⟩ | exact Below.refl _ _
    · simp at hq; subst hq
      have g46 : act.tmps[46]?.getD undef = .pointer (some ⟨BB, 8, none⟩) := hI.has 4 46 rfl (hall ⟨4, .data⟩ (by simp) rfl)
      clear hI hall hnot hcl
      refine .inl ⟨wanted_none rfl, ?_⟩
      unfold Oper.wp
      go_simp
      all_goals first | exact ⟨_, rfl, Below.refl _ _, rfl, hB⟩ | exact ⟨Below.refl _ _, hB⟩ | exact Below.refl _ _
    · simp at hq; subst hq
      have g47 : act.tmps[47]?.getD undef = .int .i64 st := hI.has 5 47 rfl (hall ⟨5, .data⟩ (by simp) rfl)
      clear hI hall hnot hcl
      refine .inl ⟨wanted_none rfl, ?_⟩
      unfold Oper.wp
      go_simp
      refine (HCB.out _).mono ?_
      rintro e w4 ⟨rfl, b4⟩
      exact ⟨_, rfl, b4, rfl, below_of hB hB.size b4⟩
    · simp at hq; subst hq
      have g43 : act.tmps[43]?.getD undef = .string (TA ++ (⟨#[59]⟩)) := hI.has 1 43 rfl (hall ⟨1, .data⟩ (by simp) rfl)
      have g48 : act.tmps[48]?.getD undef = .string TB := hI.has 6 48 rfl (hall ⟨6, .data⟩ (by simp) rfl)
      clear hI hall hnot hcl
      refine .inl ⟨wanted_none rfl, ?_⟩
      unfold Oper.wp
      go_simp
      rw [if_neg (by omega)]
      go_simp
      all_goals first | exact ⟨_, rfl, Below.refl _ _, rfl, hB⟩ | exact ⟨Below.refl _ _, hB⟩ | exact Below.refl _ _
    · simp at hq; subst hq
      have g49 : act.tmps[49]?.getD undef = .string (((TA ++ (⟨#[59]⟩))) ++ TB) := hI.has 7 49 rfl (hall ⟨7, .data⟩ (by simp) rfl)
      clear hI hall hnot hcl
      refine .inl ⟨wanted_none rfl, ?_⟩
      unfold Oper.wp
      go_simp
      rw [if_neg (by omega)]
      go_simp
      all_goals first | exact ⟨_, rfl, Below.refl _ _, rfl, hB⟩ | exact ⟨Below.refl _ _, hB⟩ | exact Below.refl _ _
    · simp at hq; subst hq
      have g0 : act.tmps[0]?.getD undef = .pointer (some ⟨BB, 0, none⟩) := hI.kept 0 (by kernel_rfl)
      clear hI hall hnot hcl
      refine .inl ⟨wanted_none rfl, ?_⟩
      unfold Oper.wp
      go_simp
      all_goals first | exact ⟨_, rfl, Below.refl _ _, rfl, hB⟩ | exact ⟨Below.refl _ _, hB⟩ | exact Below.refl _ _
    · simp at hq; subst hq
      have g51 : act.tmps[51]?.getD undef = .pointer (some ⟨BB, 0, none⟩) := hI.has 9 51 rfl (hall ⟨9, .data⟩ (by simp) rfl)
      clear hI hall hnot hcl
      refine .inl ⟨wanted_none rfl, ?_⟩
      unfold Oper.wp
      go_simp
      all_goals first | exact ⟨_, rfl, Below.refl _ _, rfl, hB⟩ | exact ⟨Below.refl _ _, hB⟩ | exact Below.refl _ _
    · simp at hq; subst hq
      have g52 : act.tmps[52]?.getD undef = .pointer (some ⟨BB, 0, none⟩) := hI.has 10 52 rfl (hall ⟨10, .data⟩ (by simp) rfl)
      clear hI hall hnot hcl
      refine .inl ⟨wanted_none rfl, ?_⟩
      unfold Oper.wp
      go_simp
      all_goals first | exact ⟨_, rfl, Below.refl _ _, rfl, hB⟩ | exact ⟨Below.refl _ _, hB⟩ | exact Below.refl _ _
    · simp at hq; subst hq
      have g53 : act.tmps[53]?.getD undef = .pointer (some ⟨BB, 9, none⟩) := hI.has 11 53 rfl (hall ⟨11, .data⟩ (by simp) rfl)
      clear hI hall hnot hcl
      refine .inl ⟨wanted_none rfl, ?_⟩
      unfold Oper.wp
      go_simp
      all_goals first | exact ⟨_, rfl, Below.refl _ _, rfl, hB⟩ | exact ⟨Below.refl _ _, hB⟩ | exact Below.refl _ _
    · simp at hq; subst hq
      have g0 : act.tmps[0]?.getD undef = .pointer (some ⟨BB, 0, none⟩) := hI.kept 0 (by kernel_rfl)
      clear hI hall hnot hcl
      refine .inl ⟨wanted_none rfl, ?_⟩
      unfold Oper.wp
      go_simp
      all_goals first | exact ⟨_, rfl, Below.refl _ _, rfl, hB⟩ | exact ⟨Below.refl _ _, hB⟩ | exact Below.refl _ _
    · simp at hq; subst hq
      have g55 : act.tmps[55]?.getD undef = .pointer (some ⟨BB, 0, none⟩) := hI.has 13 55 rfl (hall ⟨13, .data⟩ (by simp) rfl)
      clear hI hall hnot hcl
      refine .inl ⟨wanted_none rfl, ?_⟩
      unfold Oper.wp
      go_simp
      all_goals first | exact ⟨_, rfl, Below.refl _ _, rfl, hB⟩ | exact ⟨Below.refl _ _, hB⟩ | exact Below.refl _ _
    · simp at hq; subst hq
      have g56 : act.tmps[56]?.getD undef = .pointer (some ⟨BB, 0, none⟩) := hI.has 14 56 rfl (hall ⟨14, .data⟩ (by simp) rfl)
      clear hI hall hnot hcl
      refine .inl ⟨wanted_none rfl, ?_⟩
      unfold Oper.wp
      go_simp
      all_goals first | exact ⟨_, rfl, Below.refl _ _, rfl, hB⟩ | exact ⟨Below.refl _ _, hB⟩ | exact Below.refl _ _
    · simp at hq; subst hq
      have g57 : act.tmps[57]?.getD undef = .pointer (some ⟨BB, 10, none⟩) := hI.has 15 57 rfl (hall ⟨15, .data⟩ (by simp) rfl)
      clear hI hall hnot hcl
      refine .inl ⟨wanted_none rfl, ?_⟩
      unfold Oper.wp
      go_simp
      all_goals first | exact ⟨_, rfl, Below.refl _ _, rfl, hB⟩ | exact ⟨Below.refl _ _, hB⟩ | exact Below.refl _ _
    · simp at hq; subst hq
      have g0 : act.tmps[0]?.getD undef = .pointer (some ⟨BB, 0, none⟩) := hI.kept 0 (by kernel_rfl)
      clear hI hall hnot hcl
      refine .inl ⟨wanted_none rfl, ?_⟩
      unfold Oper.wp
      go_simp
      all_goals first | exact ⟨_, rfl, Below.refl _ _, rfl, hB⟩ | exact ⟨Below.refl _ _, hB⟩ | exact Below.refl _ _
    · simp at hq; subst hq
      have g59 : act.tmps[59]?.getD undef = .pointer (some ⟨BB, 0, none⟩) := hI.has 17 59 rfl (hall ⟨17, .data⟩ (by simp) rfl)
      clear hI hall hnot hcl
      refine .inl ⟨wanted_none rfl, ?_⟩
      unfold Oper.wp
      go_simp
      all_goals first | exact ⟨_, rfl, Below.refl _ _, rfl, hB⟩ | exact ⟨Below.refl _ _, hB⟩ | exact Below.refl _ _
    · simp at hq; subst hq
      have g60 : act.tmps[60]?.getD undef = .pointer (some ⟨BB, 0, none⟩) := hI.has 18 60 rfl (hall ⟨18, .data⟩ (by simp) rfl)
      clear hI hall hnot hcl
      refine .inl ⟨wanted_none rfl, ?_⟩
      unfold Oper.wp
      go_simp
      all_goals first | exact ⟨_, rfl, Below.refl _ _, rfl, hB⟩ | exact ⟨Below.refl _ _, hB⟩ | exact Below.refl _ _
    · simp at hq; subst hq
      have g61 : act.tmps[61]?.getD undef = .pointer (some ⟨BB, 11, none⟩) := hI.has 19 61 rfl (hall ⟨19, .data⟩ (by simp) rfl)
      clear hI hall hnot hcl
      refine .inl ⟨wanted_none rfl, ?_⟩
      unfold Oper.wp
      go_simp
      all_goals first | exact ⟨_, rfl, Below.refl _ _, rfl, hB⟩ | exact ⟨Below.refl _ _, hB⟩ | exact Below.refl _ _
    · simp at hq; subst hq
      have g54 : act.tmps[54]?.getD undef = .float .f32 sp := hI.has 12 54 rfl (hall ⟨12, .data⟩ (by simp) rfl)
      have g58 : act.tmps[58]?.getD undef = .float .f32 pi := hI.has 16 58 rfl (hall ⟨16, .data⟩ (by simp) rfl)
      have g62 : act.tmps[62]?.getD undef = .float .f32 en := hI.has 20 62 rfl (hall ⟨20, .data⟩ (by simp) rfl)
      clear hI hall hnot hcl
      refine .inl ⟨wanted_none rfl, ?_⟩
      unfold Oper.wp
      go_simp
      first | exact ⟨_, rfl, (Below.refl _ _).alloc (Nat.le_refl _) _, ⟨_, rfl, fl_lit _ [sp, pi, en] _⟩, hB.alloc hB.size _⟩ | exact ⟨_, rfl, (Below.refl _ _).alloc (Nat.le_refl _) _, ⟨_, rfl, fl_lit _ [sp, pi, en] _⟩⟩
    · simp at hq; subst hq
      obtain ⟨q21, g63, h21a⟩ := hI.has 21 63 rfl (hall ⟨21, .data⟩ (by simp) rfl)
      clear hI hall hnot hcl
      refine .inl ⟨wanted_none rfl, ?_⟩
      unfold Oper.wp
      go_simp
      refine (HCC.out _ q21 h21a).mono ?_
      rintro e w4 ⟨rfl, b4⟩
      exact ⟨_, rfl, b4, rfl, below_of hB hB.size b4⟩
    · simp at hq; subst hq
      have g50 : act.tmps[50]?.getD undef = .string (((((TA ++ (⟨#[59]⟩))) ++ TB)) ++ (⟨#[59]⟩)) := hI.has 8 50 rfl (hall ⟨8, .data⟩ (by simp) rfl)
      have g64 : act.tmps[64]?.getD undef = .string TC := hI.has 22 64 rfl (hall ⟨22, .data⟩ (by simp) rfl)
      clear hI hall hnot hcl
      refine .inl ⟨wanted_none rfl, ?_⟩
      unfold Oper.wp
      go_simp
      rw [if_neg (by omega)]
      go_simp
      all_goals first | exact ⟨_, rfl, Below.refl _ _, rfl, hB⟩ | exact ⟨Below.refl _ _, hB⟩ | exact Below.refl _ _
    · simp at hq; subst hq
      have g65 : act.tmps[65]?.getD undef = .string (((((((TA ++ (⟨#[59]⟩))) ++ TB)) ++ (⟨#[59]⟩))) ++ TC) := hI.has 23 65 rfl (hall ⟨23, .data⟩ (by simp) rfl)
      clear hI hall hnot hcl
      refine .inl ⟨wanted_none rfl, ?_⟩
      unfold Oper.wp
      go_simp
      all_goals first | exact ⟨_, rfl, Below.refl _ _, rfl, hB⟩ | exact ⟨Below.refl _ _, hB⟩ | exact Below.refl _ _
    · simp at hq
  case hend =>
    intro listed act w3 hI hall
    have hB := hI.cls
    obtain ⟨k0, k1, k2, k3, k4, k5, k6, k7, k8, k9, k10, k11⟩ := blkL12 (HK2.out.below hB)
    have g2 : act.tmps[2]?.getD undef = .string (((((((TA ++ (⟨#[59]⟩))) ++ TB)) ++ (⟨#[59]⟩))) ++ TC) := hI.has 24 2 rfl (hall 24 (by decide))
    have g0 := hI.kept 0 (by kernel_rfl)
    conv at g0 => rhs; whnf
    have g1 : act.tmps[1]?.getD undef = undef := hI.kept 1 (by kernel_rfl)
    have g3 := hI.kept 3 (by kernel_rfl)
    conv at g3 => rhs; whnf
    have g4 := hI.kept 4 (by kernel_rfl)
    conv at g4 => rhs; whnf
    have g5 := hI.kept 5 (by kernel_rfl)
    conv at g5 => rhs; whnf
    have g6 := hI.kept 6 (by kernel_rfl)
    conv at g6 => rhs; whnf
    have g7 := hI.kept 7 (by kernel_rfl)
    conv at g7 => rhs; whnf
    have g8 := hI.kept 8 (by kernel_rfl)
    conv at g8 => rhs; whnf
    have g9 := hI.kept 9 (by kernel_rfl)
    conv at g9 => rhs; whnf
    have g10 := hI.kept 10 (by kernel_rfl)
    conv at g10 => rhs; whnf
    have g11 := hI.kept 11 (by kernel_rfl)
    conv at g11 => rhs; whnf
    have g12 := hI.kept 12 (by kernel_rfl)
    conv at g12 => rhs; whnf
    have g13 := hI.kept 13 (by kernel_rfl)
    conv at g13 => rhs; whnf
    have g14 := hI.kept 14 (by kernel_rfl)
    conv at g14 => rhs; whnf
    have g15 := hI.kept 15 (by kernel_rfl)
    conv at g15 => rhs; whnf
    have g16 := hI.kept 16 (by kernel_rfl)
    conv at g16 => rhs; whnf
    have g17 := hI.kept 17 (by kernel_rfl)
    conv at g17 => rhs; whnf
    have g18 := hI.kept 18 (by kernel_rfl)
    conv at g18 => rhs; whnf
    have g19 := hI.kept 19 (by kernel_rfl)
    conv at g19 => rhs; whnf
    have g20 := hI.kept 20 (by kernel_rfl)
    conv at g20 => rhs; whnf
    have g21 := hI.kept 21 (by kernel_rfl)
    conv at g21 => rhs; whnf
    have g22 := hI.kept 22 (by kernel_rfl)
    conv at g22 => rhs; whnf
    have g23 := hI.kept 23 (by kernel_rfl)
    conv at g23 => rhs; whnf
    have g24 := hI.kept 24 (by kernel_rfl)
    conv at g24 => rhs; whnf
    have g25 := hI.kept 25 (by kernel_rfl)
    conv at g25 => rhs; whnf
    have g26 := hI.kept 26 (by kernel_rfl)
    conv at g26 => rhs; whnf
    have g27 := hI.kept 27 (by kernel_rfl)
    conv at g27 => rhs; whnf
    have g28 := hI.kept 28 (by kernel_rfl)
    conv at g28 => rhs; whnf
    have g29 := hI.kept 29 (by kernel_rfl)
    conv at g29 => rhs; whnf
    have g30 := hI.kept 30 (by kernel_rfl)
    conv at g30 => rhs; whnf
    have g31 := hI.kept 31 (by kernel_rfl)
    conv at g31 => rhs; whnf
    have g32 := hI.kept 32 (by kernel_rfl)
    conv at g32 => rhs; whnf
    have g33 := hI.kept 33 (by kernel_rfl)
    conv at g33 => rhs; whnf
    have g34 := hI.kept 34 (by kernel_rfl)
    conv at g34 => rhs; whnf
    have g35 := hI.kept 35 (by kernel_rfl)
    conv at g35 => rhs; whnf
    have g36 := hI.kept 36 (by kernel_rfl)
    conv at g36 => rhs; whnf
    have g37 := hI.kept 37 (by kernel_rfl)
    conv at g37 => rhs; whnf
    have g38 := hI.kept 38 (by kernel_rfl)
    conv at g38 => rhs; whnf
    have g39 := hI.kept 39 (by kernel_rfl)
    conv at g39 => rhs; whnf
    have g40 := hI.kept 40 (by kernel_rfl)
    conv at g40 => rhs; whnf
    have g41 := hI.kept 41 (by kernel_rfl)
    conv at g41 => rhs; whnf
    have hsz : act.tmps.size = 66 := hI.size.trans (by kernel_rfl)
    have hd := hI.defers
    clear hI hall
    obtain ⟨tt, dd⟩ := act
    simp only at g0 g1 g2 g3 g4 g5 g6 g7 g8 g9 g10 g11 g12 g13 g14 g15 g16 g17 g18 g19 g20 g21 g22 g23 g24 g25 g26 g27 g28 g29 g30 g31 g32 g33 g34 g35 g36 g37 g38 g39 g40 g41 hsz hd
    subst hd
    have hl : tt = #[tt[0]?.getD undef, tt[1]?.getD undef, tt[2]?.getD undef, tt[3]?.getD undef, tt[4]?.getD undef, tt[5]?.getD undef, tt[6]?.getD undef, tt[7]?.getD undef, tt[8]?.getD undef, tt[9]?.getD undef, tt[10]?.getD undef, tt[11]?.getD undef, tt[12]?.getD undef, tt[13]?.getD undef, tt[14]?.getD undef, tt[15]?.getD undef, tt[16]?.getD undef, tt[17]?.getD undef, tt[18]?.getD undef, tt[19]?.getD undef, tt[20]?.getD undef, tt[21]?.getD undef, tt[22]?.getD undef, tt[23]?.getD undef, tt[24]?.getD undef, tt[25]?.getD undef, tt[26]?.getD undef, tt[27]?.getD undef, tt[28]?.getD undef, tt[29]?.getD undef, tt[30]?.getD undef, tt[31]?.getD undef, tt[32]?.getD undef, tt[33]?.getD undef, tt[34]?.getD undef, tt[35]?.getD undef, tt[36]?.getD undef, tt[37]?.getD undef, tt[38]?.getD undef, tt[39]?.getD undef, tt[40]?.getD undef, tt[41]?.getD undef, tt[42]?.getD undef, tt[43]?.getD undef, tt[44]?.getD undef, tt[45]?.getD undef, tt[46]?.getD undef, tt[47]?.getD undef, tt[48]?.getD undef, tt[49]?.getD undef, tt[50]?.getD undef, tt[51]?.getD undef, tt[52]?.getD undef, tt[53]?.getD undef, tt[54]?.getD undef, tt[55]?.getD undef, tt[56]?.getD undef, tt[57]?.getD undef, tt[58]?.getD undef, tt[59]?.getD undef, tt[60]?.getD undef, tt[61]?.getD undef, tt[62]?.getD undef, tt[63]?.getD undef, tt[64]?.getD undef, tt[65]?.getD undef] := (arr_lit hsz).trans rfl
    rw [g0, g1, g2, g3, g4, g5, g6, g7, g8, g9, g10, g11, g12, g13, g14, g15, g16, g17, g18, g19, g20, g21, g22, g23, g24, g25, g26, g27, g28, g29, g30, g31, g32, g33, g34, g35, g36, g37, g38, g39, g40, g41] at hl
    clear g0 g1 g2 g3 g4 g5 g6 g7 g8 g9 g10 g11 g12 g13 g14 g15 g16 g17 g18 g19 g20 g21 g22 g23 g24 g25 g26 g27 g28 g29 g30 g31 g32 g33 g34 g35 g36 g37 g38 g39 g40 g41 hsz
    generalize tt[42]?.getD undef = y42 at hl
    generalize tt[43]?.getD undef = y43 at hl
    generalize tt[44]?.getD undef = y44 at hl
    generalize tt[45]?.getD undef = y45 at hl
    generalize tt[46]?.getD undef = y46 at hl
    generalize tt[47]?.getD undef = y47 at hl
    generalize tt[48]?.getD undef = y48 at hl
    generalize tt[49]?.getD undef = y49 at hl
    generalize tt[50]?.getD undef = y50 at hl
    generalize tt[51]?.getD undef = y51 at hl
    generalize tt[52]?.getD undef = y52 at hl
    generalize tt[53]?.getD undef = y53 at hl
    generalize tt[54]?.getD undef = y54 at hl
    generalize tt[55]?.getD undef = y55 at hl
    generalize tt[56]?.getD undef = y56 at hl
    generalize tt[57]?.getD undef = y57 at hl
    generalize tt[58]?.getD undef = y58 at hl
    generalize tt[59]?.getD undef = y59 at hl
    generalize tt[60]?.getD undef = y60 at hl
    generalize tt[61]?.getD undef = y61 at hl
    generalize tt[62]?.getD undef = y62 at hl
    generalize tt[63]?.getD undef = y63 at hl
    generalize tt[64]?.getD undef = y64 at hl
    generalize tt[65]?.getD undef = y65 at hl
    subst hl
    go_wp2
    go_ret
    exact ⟨by rw [HS.out]; rfl, below_of HB2.out HB2.out.size hB⟩
set_option maxHeartbeats 2000000 in
theorem i_DriveText (p0 p1 p2 p3 p4 p5 p6 p7 : Nat) (st : Int) (sp pi en : Nat) (w : World) (hw : (∀ x ∈ [p0, p1, p2, p3, p4, p5, p6, p7], canon .f32 x < 4294967296) ∧ (∀ x ∈ [sp, pi, en], canon .f32 x < 4294967296)) (hi : -9223372036854775808 ≤ st ∧ st ≤ 9223372036854775807) (hT : T64 w ∧ T10 w) :
    Calls Tryd.prog 26 #[.agg #[.float .f32 p0, .float .f32 p1, .float .f32 p2, .float .f32 p3, .float .f32 p4, .float .f32 p5, .float .f32 p6, .float .f32 p7, .int .i64 st, .float .f32 sp, .float .f32 pi, .float .f32 en]] w fun e w' => e = .returned (.tuple #[.string (drvT p0 p1 p2 p3 p4 p5 p6 p7 st sp pi en), .bool (driveV p0 p1 p2 p3 p4 p5 p6 p7 st sp pi en)]) ∧ Below w.heap.size w w' := by
  have HI := Lib.hid hi
  have HW := Lib.hid hw
  have HT := Lib.hid hT
  clear hi hw hT
  have HV : Calls Tryd.prog 68 #[.agg #[.float .f32 p0, .float .f32 p1, .float .f32 p2, .float .f32 p3, .float .f32 p4, .float .f32 p5, .float .f32 p6, .float .f32 p7, .int .i64 st, .float .f32 sp, .float .f32 pi, .float .f32 en], .func (.func 69) #[] #[], .func (.func 70) #[] #[]] (w.alloc (.cells #[.float .f32 p0, .float .f32 p1, .float .f32 p2, .float .f32 p3, .float .f32 p4, .float .f32 p5, .float .f32 p6, .float .f32 p7, .int .i64 st, .float .f32 sp, .float .f32 pi, .float .f32 en] 57)) fun e w' => e = .returned (.tuple #[.string (drvT p0 p1 p2 p3 p4 p5 p6 p7 st sp pi en), .bool (driveV p0 p1 p2 p3 p4 p5 p6 p7 st sp pi en)]) ∧ Below w.heap.size w w' := by
    have HB1 : Hid (Below w.heap.size w (w.alloc (.cells #[.float .f32 p0, .float .f32 p1, .float .f32 p2, .float .f32 p3, .float .f32 p4, .float .f32 p5, .float .f32 p6, .float .f32 p7, .int .i64 st, .float .f32 sp, .float .f32 pi, .float .f32 en] 57))) := Lib.hid ((Below.refl _ _).alloc (Nat.le_refl _) _)
    generalize w.alloc (.cells #[.float .f32 p0, .float .f32 p1, .float .f32 p2, .float .f32 p3, .float .f32 p4, .float .f32 p5, .float .f32 p6, .float .f32 p7, .int .i64 st, .float .f32 sp, .float .f32 pi, .float .f32 en] 57) = w1 at HB1 ⊢
    have HB2 : Hid (Below w.heap.size w (w1.alloc (.cells #[.float .f32 p0, .float .f32 p1, .float .f32 p2, .float .f32 p3, .float .f32 p4, .float .f32 p5, .float .f32 p6, .float .f32 p7, .int .i64 st, .float .f32 sp, .float .f32 pi, .float .f32 en] 57))) := Lib.hid (HB1.out.alloc HB1.out.size _)
    have HK : Hid (BlkL (w1.alloc (.cells #[.float .f32 p0, .float .f32 p1, .float .f32 p2, .float .f32 p3, .float .f32 p4, .float .f32 p5, .float .f32 p6, .float .f32 p7, .int .i64 st, .float .f32 sp, .float .f32 pi, .float .f32 en] 57)) w1.heap.size [.float .f32 p0, .float .f32 p1, .float .f32 p2, .float .f32 p3, .float .f32 p4, .float .f32 p5, .float .f32 p6, .float .f32 p7, .int .i64 st, .float .f32 sp, .float .f32 pi, .float .f32 en]) := Lib.hid (blkL_at w1 #[.float .f32 p0, .float .f32 p1, .float .f32 p2, .float .f32 p3, .float .f32 p4, .float .f32 p5, .float .f32 p6, .float .f32 p7, .int .i64 st, .float .f32 sp, .float .f32 pi, .float .f32 en] _ rfl)
    go_enter Tryd.func68, Tryd.ntmps68
    go_wp2_with fail
    generalize w1.alloc (.cells #[.float .f32 p0, .float .f32 p1, .float .f32 p2, .float .f32 p3, .float .f32 p4, .float .f32 p5, .float .f32 p6, .float .f32 p7, .int .i64 st, .float .f32 sp, .float .f32 pi, .float .f32 en] 57) = w2 at HB2 HK ⊢
    refine (i_ValidDrive p0 p1 p2 p3 p4 p5 p6 p7 st sp pi en _).mono ?_
    rintro e w3 ⟨rfl, hb⟩
    have HB3 : Hid (Below w.heap.size w w3) := Lib.hid (below_of HB2.out HB2.out.size hb)
    have HK3 := Lib.hid (HK.out.below hb)
    clear hb
    cases hv : driveV p0 p1 p2 p3 p4 p5 p6 p7 st sp pi en
    · have HR : Hid (drvT p0 p1 p2 p3 p4 p5 p6 p7 st sp pi en = ⟨#[]⟩) := Lib.hid (by unfold drvT; rw [hv]; rfl)
      have HQ := Lib.hid hv
      go_wp2
      go_ret2
      exact ⟨by rw [HR.out, HQ.out]; rfl, HB3.out⟩
    · have HR : Hid (drvT p0 p1 p2 p3 p4 p5 p6 p7 st sp pi en = drvS p0 p1 p2 p3 p4 p5 p6 p7 st sp pi en) := Lib.hid (by unfold drvT; rw [hv]; rfl)
      have HQ := Lib.hid hv
      obtain ⟨k0, k1, k2, k3, k4, k5, k6, k7, k8, k9, k10, k11⟩ := blkL12 HK3.out
      go_wp2_with fail
      refine (i_driveText p0 p1 p2 p3 p4 p5 p6 p7 st sp pi en _ HW.out HI.out ⟨HT.out.1.below HB3.out, HT.out.2.below HB3.out⟩).mono ?_
      rintro e w4 ⟨rfl, hb⟩
      have HB4 : Hid (Below w.heap.size w w4) := Lib.hid (below_of HB3.out HB3.out.size hb)
      clear hb
      go_wp2
      go_ret2
      exact ⟨by rw [HR.out, HQ.out]; rfl, HB4.out⟩
  go_enter Tryd.func26, Tryd.ntmps26
  go_wp2_with fail
  refine HV.mono ?_
  rintro e w1 ⟨rfl, hb⟩
  have HB := Lib.hid hb
  clear hb
  go_wp2
  go_ret2
  exact ⟨rfl, HB.out⟩
set_option maxHeartbeats 2000000 in
theorem s_DriveText (p0 p1 p2 p3 p4 p5 p6 p7 : Nat) (st : Int) (sp pi en : Nat) (w : World) (hw : (∀ x ∈ [p0, p1, p2, p3, p4, p5, p6, p7], canon .f32 x < 4294967296) ∧ (∀ x ∈ [sp, pi, en], canon .f32 x < 4294967296)) (hi : -9223372036854775808 ≤ st ∧ st ≤ 9223372036854775807) :
    Calls Tryd.prog 24 #[.agg #[.float .f32 p0, .float .f32 p1, .float .f32 p2, .float .f32 p3, .float .f32 p4, .float .f32 p5, .float .f32 p6, .float .f32 p7, .int .i64 st, .float .f32 sp, .float .f32 pi, .float .f32 en]] w fun e w' => e = .returned (.tuple #[.string (drvT p0 p1 p2 p3 p4 p5 p6 p7 st sp pi en), .bool (driveV p0 p1 p2 p3 p4 p5 p6 p7 st sp pi en)]) ∧ Below w.heap.size w w' := by
  have HI := Lib.hid hi
  have HW := Lib.hid hw
  clear hi hw
  have HB1 : Hid (Below w.heap.size w (w.alloc (.cells #[.float .f32 p0, .float .f32 p1, .float .f32 p2, .float .f32 p3, .float .f32 p4, .float .f32 p5, .float .f32 p6, .float .f32 p7, .int .i64 st, .float .f32 sp, .float .f32 pi, .float .f32 en] 57))) := Lib.hid ((Below.refl _ _).alloc (Nat.le_refl _) _)
  have HK : Hid (BlkL (w.alloc (.cells #[.float .f32 p0, .float .f32 p1, .float .f32 p2, .float .f32 p3, .float .f32 p4, .float .f32 p5, .float .f32 p6, .float .f32 p7, .int .i64 st, .float .f32 sp, .float .f32 pi, .float .f32 en] 57)) w.heap.size [.float .f32 p0, .float .f32 p1, .float .f32 p2, .float .f32 p3, .float .f32 p4, .float .f32 p5, .float .f32 p6, .float .f32 p7, .int .i64 st, .float .f32 sp, .float .f32 pi, .float .f32 en]) := Lib.hid (blkL_at w #[.float .f32 p0, .float .f32 p1, .float .f32 p2, .float .f32 p3, .float .f32 p4, .float .f32 p5, .float .f32 p6, .float .f32 p7, .int .i64 st, .float .f32 sp, .float .f32 pi, .float .f32 en] _ rfl)
  go_enter Tryd.func24, Tryd.ntmps24
  go_wp2_with fail
  generalize w.alloc (.cells #[.float .f32 p0, .float .f32 p1, .float .f32 p2, .float .f32 p3, .float .f32 p4, .float .f32 p5, .float .f32 p6, .float .f32 p7, .int .i64 st, .float .f32 sp, .float .f32 pi, .float .f32 en] 57) = w1 at HB1 HK ⊢
  refine (s_l05Is p0 p1 p2 p3 p4 p5 p6 p7 st sp pi en _ _ (BlkL.c12 HK.out)).mono ?_
  rintro e w2 ⟨n, rfl, hw⟩
  have HB2 : Hid (Below w.heap.size w w2) := Lib.hid (by rw [hw]; exact below_draws HB1.out _)
  have HK2 : Hid (BlkL w2 w.heap.size [.float .f32 p0, .float .f32 p1, .float .f32 p2, .float .f32 p3, .float .f32 p4, .float .f32 p5, .float .f32 p6, .float .f32 p7, .int .i64 st, .float .f32 sp, .float .f32 pi, .float .f32 en]) := Lib.hid (by rw [hw]; exact HK.out)
  clear hw
  cases hv : driveV p0 p1 p2 p3 p4 p5 p6 p7 st sp pi en
  · have HR : Hid (drvT p0 p1 p2 p3 p4 p5 p6 p7 st sp pi en = ⟨#[]⟩) := Lib.hid (by unfold drvT; rw [hv]; rfl)
    have HQ := Lib.hid hv
    go_wp2
    go_ret2
    exact ⟨by rw [HR.out, HQ.out]; rfl, HB2.out⟩
  · have HR : Hid (drvT p0 p1 p2 p3 p4 p5 p6 p7 st sp pi en = drvS p0 p1 p2 p3 p4 p5 p6 p7 st sp pi en) := Lib.hid (by unfold drvT; rw [hv]; rfl)
    have HQ := Lib.hid hv
    go_wp2_with fail
    refine (s_l08Drive p0 p1 p2 p3 p4 p5 p6 p7 st sp pi en _ _ HK2.out HW.out HI.out).mono ?_
    rintro e w3 ⟨rfl, hb⟩
    have HB3 : Hid (Below w.heap.size w w3) := Lib.hid (below_of HB2.out HB2.out.size hb)
    clear hb
    go_wp2
    go_ret2
    exact ⟨by rw [HR.out, HQ.out]; rfl, HB3.out⟩
end Go.Proofs.YtpjgmfkjpkeohaaDoor
