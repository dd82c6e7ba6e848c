/- The text of a farm, both sides. No statement is proved here. -/
import Derived.Test.YtpjgmfkjpkeohaaDoorAirT
import Derived.Test.YtpjgmfkjpkeohaaDoorFrmV
namespace Go.Proofs.YtpjgmfkjpkeohaaDoor
open Go Go.RowKit
/-- the text of a farm -/
def farmS (fx fy : List Nat) (fr fd fs : Nat) : ByteArray := textS fx ++ ⟨#[59]⟩ ++ textS fy ++ ⟨#[59]⟩ ++ textS [fr, fd, fs]
def farmT (fx fy : List Nat) (fr fd fs : Nat) : ByteArray := if frmV fx fy fr fd fs then farmS fx fy fr fd fs else ⟨#[]⟩
theorem len3 (a b c : Nat) : [a, b, c].length ≤ 256 := by simp
theorem words3 {a b c : Nat} (h : a < words .f32 ∧ b < words .f32 ∧ c < words .f32) : ∀ x ∈ [a, b, c], canon .f32 x < 4294967296 := by
  intro x hx
  simp only [List.mem_cons, List.not_mem_nil, or_false] at hx
  rcases hx with rfl | rfl | rfl
  · exact canon_lt h.1
  · exact canon_lt h.2.1
  · exact canon_lt h.2.2
set_option maxHeartbeats 8000000 in
set_option maxRecDepth 100000 in
theorem i_farmText (X Y : Option Addr) (cx cy : Nat) (fx fy : List Nat) (fr fd fs : Nat) (w : World) (h : Rs w X Y fx fy) (hn : sizedF fx fy) (hw : (∀ x ∈ fx, canon .f32 x < 4294967296) ∧ (∀ x ∈ fy, canon .f32 x < 4294967296) ∧ ∀ x ∈ [fr, fd, fs], canon .f32 x < 4294967296) (hT : T64 w) :
    Calls Tryd.prog 75 #[.agg #[.slice X fx.length cx, .slice Y fy.length cy, .float .f32 fr, .float .f32 fd, .float .f32 fs]] w fun e w' => e = .returned (.string (farmS fx fy fr fd fs)) ∧ Below w.heap.size w w' := by
  have HB0 : Hid (Below w.heap.size w (w.alloc (.cells #[.slice X fx.length cx, .slice Y fy.length cy, .float .f32 fr, .float .f32 fd, .float .f32 fs] 64))) := Lib.hid ((Below.refl _ _).alloc (Nat.le_refl _) _)
  have HK : Hid (BlkL (w.alloc (.cells #[.slice X fx.length cx, .slice Y fy.length cy, .float .f32 fr, .float .f32 fd, .float .f32 fs] 64)) w.heap.size [.slice X fx.length cx, .slice Y fy.length cy, .float .f32 fr, .float .f32 fd, .float .f32 fs]) := Lib.hid (blkL_at w #[.slice X fx.length cx, .slice Y fy.length cy, .float .f32 fr, .float .f32 fd, .float .f32 fs] _ rfl)
  obtain ⟨w0, hw0⟩ : ∃ z, z = w.alloc (.cells #[.slice X fx.length cx, .slice Y fy.length cy, .float .f32 fr, .float .f32 fd, .float .f32 fs] 64) := ⟨_, rfl⟩
  rw [← hw0] at HB0 HK
  obtain ⟨BB, hBB⟩ : ∃ z, z = w.heap.size := ⟨_, rfl⟩
  rw [← hBB] at HK
  have HCA : Hid (∀ W, Below w0.heap.size w0 W → Calls Tryd.prog 97 #[.slice X fx.length cx] W fun e w' => e = .returned (.string (textS fx)) ∧ Below W.heap.size W w') := Lib.hid (fun W hb => i_numbersText X cx fx W ((h.1).below (below_of HB0.out HB0.out.size hb)) (by have := hn.2.1; omega) (hw.1) (hT.below (below_of HB0.out HB0.out.size hb)))
  have zA : (textS fx).size ≤ 3000 := by have h1 := textS_size fx; have h2 : fx.length ≤ 256 := (by have := hn.2.1; omega); omega
  have HCB : Hid (∀ W, Below w0.heap.size w0 W → Calls Tryd.prog 97 #[.slice Y fy.length cy] W fun e w' => e = .returned (.string (textS fy)) ∧ Below W.heap.size W w') := Lib.hid (fun W hb => i_numbersText Y cy fy W ((h.2).below (below_of HB0.out HB0.out.size hb)) (by have := hn.2.1; have := hn.2.2; omega) (hw.2.1) (hT.below (below_of HB0.out HB0.out.size hb)))
  have zB : (textS fy).size ≤ 3000 := by have h1 := textS_size fy; have h2 : fy.length ≤ 256 := (by have := hn.2.1; have := hn.2.2; omega); omega
  have HCC : Hid (∀ W g, Below w0.heap.size w0 W → Fl W (some ⟨g, 0, none⟩) [fr, fd, fs] → Calls Tryd.prog 97 #[.slice (some ⟨g, 0, none⟩) 3 3] W fun e w' => e = .returned (.string (textS [fr, fd, fs])) ∧ Below W.heap.size W w') := Lib.hid (fun W g hb hf => i_numbersText _ 3 [fr, fd, fs] W hf (len3 ..) (hw.2.2) (hT.below (below_of HB0.out HB0.out.size hb)))
  have zC : (textS [fr, fd, fs]).size ≤ 3000 := by have h1 := textS_size [fr, fd, fs]; have h2 : [fr, fd, fs].length ≤ 256 := (len3 ..); omega
  have HS : Hid (farmS fx fy fr fd fs = textS fx ++ ⟨#[59]⟩ ++ textS fy ++ ⟨#[59]⟩ ++ textS [fr, fd, fs]) := rfl
  generalize farmS fx fy fr fd fs = res at HS ⊢
  generalize textS fx = TA at HCA zA HS
  generalize textS fy = TB at HCB zB HS
  generalize textS [fr, fd, fs] = TC at HCC zC HS
  clear h hn hw hT
  go_enter Tryd.func75, Tryd.ntmps75
  go_wp2_with fail
  rw [← hw0]
  rw [← hBB]
  clear hw0 hBB
  refine wp_region_inv4 (fun iq wv v => match iq with
    | 0 => v = .pointer (some ⟨BB, 0, none⟩)
    | 1 => v = .slice X fx.length cx
    | 2 => v = .string TA
    | 3 => v = .string (TA ++ (⟨#[59]⟩))
    | 4 => v = .pointer (some ⟨BB, 1, none⟩)
    | 5 => v = .slice Y fy.length cy
    | 6 => v = .string TB
    | 7 => v = .string (((TA ++ (⟨#[59]⟩))) ++ TB)
    | 8 => v = .string (((((TA ++ (⟨#[59]⟩))) ++ TB)) ++ (⟨#[59]⟩))
    | 9 => v = .pointer (some ⟨BB, 2, none⟩)
    | 10 => v = .float .f32 fr
    | 11 => v = .pointer (some ⟨BB, 3, none⟩)
    | 12 => v = .float .f32 fd
    | 13 => v = .pointer (some ⟨BB, 4, none⟩)
    | 14 => v = .float .f32 fs
    | 15 => ∃ q, v = .slice (some ⟨q, 0, none⟩) 3 3 ∧ Fl wv (some ⟨q, 0, none⟩) [fr, fd, fs]
    | 16 => v = .string TC
    | 17 => v = .string (((((((TA ++ (⟨#[59]⟩))) ++ TB)) ++ (⟨#[59]⟩))) ++ TC)
    | 18 => v = .string (((((((TA ++ (⟨#[59]⟩))) ++ TB)) ++ (⟨#[59]⟩))) ++ TC)
    | _ => False) (fun _ ww => Below w0.heap.size w0 ww) (fun w w' => Below w.heap.size w w') ?hmono (by kernel_rfl) (by kernel_rfl) ((Below.refl _ _).drew) ?hop ?hend
  case hmono =>
    intro i wa wb v hR hV
    rcases i with _ | _ | _ | _ | _ | _ | _ | _ | _ | _ | _ | _ | _ | _ | _ | _ | _ | _ | _ | i
    · exact hV
    · exact hV
    · exact hV
    · exact hV
    · exact hV
    · exact hV
    · exact hV
    · exact hV
    · exact hV
    · exact hV
    · exact hV
    · exact hV
    · exact hV
    · exact hV
    · exact hV
    · obtain ⟨q, rfl, ho⟩ := hV; exact ⟨q, rfl, ho.below hR⟩
    · exact hV
    · exact hV
    · exact hV
    · exact hV
  case hop =>
    intro q o hq listed act w3 hI hnot hcl hall
    have hB := hI.cls
    obtain ⟨k0, k1, k2, k3, k4⟩ := (HK.out.below hB).five
    rcases q with _ | _ | _ | _ | _ | _ | _ | _ | _ | _ | _ | _ | _ | _ | _ | _ | _ | _ | _ | q
    · simp at hq; subst hq
      have g1 : act.tmps[1]?.getD undef = .pointer (some ⟨BB, 0, none⟩) := hI.kept 1 (by kernel_rfl)
      clear hI hall hnot hcl
      refine .inl ⟨wanted_none rfl, ?_⟩
      unfold Oper.wp
      go_simp
      all_goals first | exact ⟨_, rfl, Below.refl _ _, rfl, hB⟩ | exact ⟨Below.refl _ _, hB⟩ | exact Below.refl _ _
    · simp at hq; subst hq
      have g3 : act.tmps[3]?.getD undef = .pointer (some ⟨BB, 0, none⟩) := hI.has 0 3 rfl (hall ⟨0, .data⟩ (by simp) rfl)
      clear hI hall hnot hcl
      refine .inl ⟨wanted_none rfl, ?_⟩
      unfold Oper.wp
      go_simp
      all_goals first | exact ⟨_, rfl, Below.refl _ _, rfl, hB⟩ | exact ⟨Below.refl _ _, hB⟩ | exact Below.refl _ _
    · simp at hq; subst hq
      have g4 : act.tmps[4]?.getD undef = .slice X fx.length cx := hI.has 1 4 rfl (hall ⟨1, .data⟩ (by simp) rfl)
      clear hI hall hnot hcl
      refine .inl ⟨wanted_none rfl, ?_⟩
      unfold Oper.wp
      go_simp
      refine (HCA.out _ hB).mono ?_
      rintro e w4 ⟨rfl, b4⟩
      exact ⟨_, rfl, b4, rfl, below_of hB hB.size b4⟩
    · simp at hq; subst hq
      have g5 : act.tmps[5]?.getD undef = .string TA := hI.has 2 5 rfl (hall ⟨2, .data⟩ (by simp) rfl)
      clear hI hall hnot hcl
      refine .inl ⟨wanted_none rfl, ?_⟩
      unfold Oper.wp
      go_simp
      rw [if_neg (by omega)]
      go_simp
      all_goals first | exact ⟨_, rfl, Below.refl _ _, rfl, hB⟩ | exact ⟨Below.refl _ _, hB⟩ | exact Below.refl _ _
    · simp at hq; subst hq
      have g1 : act.tmps[1]?.getD undef = .pointer (some ⟨BB, 0, none⟩) := hI.kept 1 (by kernel_rfl)
      clear hI hall hnot hcl
      refine .inl ⟨wanted_none rfl, ?_⟩
      unfold Oper.wp
      go_simp
      all_goals first | exact ⟨_, rfl, Below.refl _ _, rfl, hB⟩ | exact ⟨Below.refl _ _, hB⟩ | exact Below.refl _ _
    · simp at hq; subst hq
      have g7 : act.tmps[7]?.getD undef = .pointer (some ⟨BB, 1, none⟩) := hI.has 4 7 rfl (hall ⟨4, .data⟩ (by simp) rfl)
      clear hI hall hnot hcl
      refine .inl ⟨wanted_none rfl, ?_⟩
      unfold Oper.wp
      go_simp
      all_goals first | exact ⟨_, rfl, Below.refl _ _, rfl, hB⟩ | exact ⟨Below.refl _ _, hB⟩ | exact Below.refl _ _
    · simp at hq; subst hq
      have g8 : act.tmps[8]?.getD undef = .slice Y fy.length cy := hI.has 5 8 rfl (hall ⟨5, .data⟩ (by simp) rfl)
      clear hI hall hnot hcl
      refine .inl ⟨wanted_none rfl, ?_⟩
      unfold Oper.wp
      go_simp
      refine (HCB.out _ hB).mono ?_
      rintro e w4 ⟨rfl, b4⟩
      exact ⟨_, rfl, b4, rfl, below_of hB hB.size b4⟩
    · simp at hq; subst hq
      have g6 : act.tmps[6]?.getD undef = .string (TA ++ (⟨#[59]⟩)) := hI.has 3 6 rfl (hall ⟨3, .data⟩ (by simp) rfl)
      have g9 : act.tmps[9]?.getD undef = .string TB := hI.has 6 9 rfl (hall ⟨6, .data⟩ (by simp) rfl)
      clear hI hall hnot hcl
      refine .inl ⟨wanted_none rfl, ?_⟩
      unfold Oper.wp
      go_simp
      rw [if_neg (by omega)]
      go_simp
      all_goals first | exact ⟨_, rfl, Below.refl _ _, rfl, hB⟩ | exact ⟨Below.refl _ _, hB⟩ | exact Below.refl _ _
    · simp at hq; subst hq
      have g10 : act.tmps[10]?.getD undef = .string (((TA ++ (⟨#[59]⟩))) ++ TB) := hI.has 7 10 rfl (hall ⟨7, .data⟩ (by simp) rfl)
      clear hI hall hnot hcl
      refine .inl ⟨wanted_none rfl, ?_⟩
      unfold Oper.wp
      go_simp
      rw [if_neg (by omega)]
      go_simp
      all_goals first | exact ⟨_, rfl, Below.refl _ _, rfl, hB⟩ | exact ⟨Below.refl _ _, hB⟩ | exact Below.refl _ _
    · simp at hq; subst hq
      have g1 : act.tmps[1]?.getD undef = .pointer (some ⟨BB, 0, none⟩) := hI.kept 1 (by kernel_rfl)
      clear hI hall hnot hcl
      refine .inl ⟨wanted_none rfl, ?_⟩
      unfold Oper.wp
      go_simp
      all_goals first | exact ⟨_, rfl, Below.refl _ _, rfl, hB⟩ | exact ⟨Below.refl _ _, hB⟩ | exact Below.refl _ _
    · simp at hq; subst hq
      have g12 : act.tmps[12]?.getD undef = .pointer (some ⟨BB, 2, none⟩) := hI.has 9 12 rfl (hall ⟨9, .data⟩ (by simp) rfl)
      clear hI hall hnot hcl
      refine .inl ⟨wanted_none rfl, ?_⟩
      unfold Oper.wp
      go_simp
      all_goals first | exact ⟨_, rfl, Below.refl _ _, rfl, hB⟩ | exact ⟨Below.refl _ _, hB⟩ | exact Below.refl _ _
    · simp at hq; subst hq
      have g1 : act.tmps[1]?.getD undef = .pointer (some ⟨BB, 0, none⟩) := hI.kept 1 (by kernel_rfl)
      clear hI hall hnot hcl
      refine .inl ⟨wanted_none rfl, ?_⟩
      unfold Oper.wp
      go_simp
      all_goals first | exact ⟨_, rfl, Below.refl _ _, rfl, hB⟩ | exact ⟨Below.refl _ _, hB⟩ | exact Below.refl _ _
    · simp at hq; subst hq
      have g14 : act.tmps[14]?.getD undef = .pointer (some ⟨BB, 3, none⟩) := hI.has 11 14 rfl (hall ⟨11, .data⟩ (by simp) rfl)
      clear hI hall hnot hcl
      refine .inl ⟨wanted_none rfl, ?_⟩
      unfold Oper.wp
      go_simp
      all_goals first | exact ⟨_, rfl, Below.refl _ _, rfl, hB⟩ | exact ⟨Below.refl _ _, hB⟩ | exact Below.refl _ _
    · simp at hq; subst hq
      have g1 : act.tmps[1]?.getD undef = .pointer (some ⟨BB, 0, none⟩) := hI.kept 1 (by kernel_rfl)
      clear hI hall hnot hcl
      refine .inl ⟨wanted_none rfl, ?_⟩
      unfold Oper.wp
      go_simp
      all_goals first | exact ⟨_, rfl, Below.refl _ _, rfl, hB⟩ | exact ⟨Below.refl _ _, hB⟩ | exact Below.refl _ _
    · simp at hq; subst hq
      have g16 : act.tmps[16]?.getD undef = .pointer (some ⟨BB, 4, none⟩) := hI.has 13 16 rfl (hall ⟨13, .data⟩ (by simp) rfl)
      clear hI hall hnot hcl
      refine .inl ⟨wanted_none rfl, ?_⟩
      unfold Oper.wp
      go_simp
      all_goals first | exact ⟨_, rfl, Below.refl _ _, rfl, hB⟩ | exact ⟨Below.refl _ _, hB⟩ | exact Below.refl _ _
    · simp at hq; subst hq
      have g13 : act.tmps[13]?.getD undef = .float .f32 fr := hI.has 10 13 rfl (hall ⟨10, .data⟩ (by simp) rfl)
      have g15 : act.tmps[15]?.getD undef = .float .f32 fd := hI.has 12 15 rfl (hall ⟨12, .data⟩ (by simp) rfl)
      have g17 : act.tmps[17]?.getD undef = .float .f32 fs := hI.has 14 17 rfl (hall ⟨14, .data⟩ (by simp) rfl)
      clear hI hall hnot hcl
      refine .inl ⟨wanted_none rfl, ?_⟩
      unfold Oper.wp
      go_simp
      first | exact ⟨_, rfl, (Below.refl _ _).alloc (Nat.le_refl _) _, ⟨_, rfl, fl_lit _ [fr, fd, fs] _⟩, hB.alloc hB.size _⟩ | exact ⟨_, rfl, (Below.refl _ _).alloc (Nat.le_refl _) _, ⟨_, rfl, fl_lit _ [fr, fd, fs] _⟩⟩
    · simp at hq; subst hq
      obtain ⟨q15, g18, h15a⟩ := hI.has 15 18 rfl (hall ⟨15, .data⟩ (by simp) rfl)
      clear hI hall hnot hcl
      refine .inl ⟨wanted_none rfl, ?_⟩
      unfold Oper.wp
      go_simp
      refine (HCC.out _ q15 hB h15a).mono ?_
      rintro e w4 ⟨rfl, b4⟩
      exact ⟨_, rfl, b4, rfl, below_of hB hB.size b4⟩
    · simp at hq; subst hq
      have g11 : act.tmps[11]?.getD undef = .string (((((TA ++ (⟨#[59]⟩))) ++ TB)) ++ (⟨#[59]⟩)) := hI.has 8 11 rfl (hall ⟨8, .data⟩ (by simp) rfl)
      have g19 : act.tmps[19]?.getD undef = .string TC := hI.has 16 19 rfl (hall ⟨16, .data⟩ (by simp) rfl)
      clear hI hall hnot hcl
      refine .inl ⟨wanted_none rfl, ?_⟩
      unfold Oper.wp
      go_simp
      rw [if_neg (by omega)]
      go_simp
      all_goals first | exact ⟨_, rfl, Below.refl _ _, rfl, hB⟩ | exact ⟨Below.refl _ _, hB⟩ | exact Below.refl _ _
    · simp at hq; subst hq
      have g20 : act.tmps[20]?.getD undef = .string (((((((TA ++ (⟨#[59]⟩))) ++ TB)) ++ (⟨#[59]⟩))) ++ TC) := hI.has 17 20 rfl (hall ⟨17, .data⟩ (by simp) rfl)
      clear hI hall hnot hcl
      refine .inl ⟨wanted_none rfl, ?_⟩
      unfold Oper.wp
      go_simp
      all_goals first | exact ⟨_, rfl, Below.refl _ _, rfl, hB⟩ | exact ⟨Below.refl _ _, hB⟩ | exact Below.refl _ _
    · simp at hq
  case hend =>
    intro listed act w3 hI hall
    have hB := hI.cls
    obtain ⟨k0, k1, k2, k3, k4⟩ := (HK.out.below hB).five
    have g2 : act.tmps[2]?.getD undef = .string (((((((TA ++ (⟨#[59]⟩))) ++ TB)) ++ (⟨#[59]⟩))) ++ TC) := hI.has 18 2 rfl (hall 18 (by decide))
    have g0 := hI.kept 0 (by kernel_rfl)
    conv at g0 => rhs; whnf
    have g1 := hI.kept 1 (by kernel_rfl)
    conv at g1 => rhs; whnf
    have hsz : act.tmps.size = 21 := hI.size.trans (by kernel_rfl)
    have hd := hI.defers
    clear hI hall
    obtain ⟨tt, dd⟩ := act
    simp only at g0 g1 g2 hsz hd
    subst hd
    have hl : tt = #[tt[0]?.getD undef, tt[1]?.getD undef, tt[2]?.getD undef, tt[3]?.getD undef, tt[4]?.getD undef, tt[5]?.getD undef, tt[6]?.getD undef, tt[7]?.getD undef, tt[8]?.getD undef, tt[9]?.getD undef, tt[10]?.getD undef, tt[11]?.getD undef, tt[12]?.getD undef, tt[13]?.getD undef, tt[14]?.getD undef, tt[15]?.getD undef, tt[16]?.getD undef, tt[17]?.getD undef, tt[18]?.getD undef, tt[19]?.getD undef, tt[20]?.getD undef] := (arr_lit hsz).trans rfl
    rw [g0, g1, g2] at hl
    clear g0 g1 g2 hsz
    generalize tt[3]?.getD undef = y3 at hl
    generalize tt[4]?.getD undef = y4 at hl
    generalize tt[5]?.getD undef = y5 at hl
    generalize tt[6]?.getD undef = y6 at hl
    generalize tt[7]?.getD undef = y7 at hl
    generalize tt[8]?.getD undef = y8 at hl
    generalize tt[9]?.getD undef = y9 at hl
    generalize tt[10]?.getD undef = y10 at hl
    generalize tt[11]?.getD undef = y11 at hl
    generalize tt[12]?.getD undef = y12 at hl
    generalize tt[13]?.getD undef = y13 at hl
    generalize tt[14]?.getD undef = y14 at hl
    generalize tt[15]?.getD undef = y15 at hl
    generalize tt[16]?.getD undef = y16 at hl
    generalize tt[17]?.getD undef = y17 at hl
    generalize tt[18]?.getD undef = y18 at hl
    generalize tt[19]?.getD undef = y19 at hl
    generalize tt[20]?.getD undef = y20 at hl
    subst hl
    go_wp2
    go_ret
    exact ⟨by rw [HS.out]; rfl, below_of HB0.out HB0.out.size hB⟩
set_option maxHeartbeats 8000000 in
set_option maxRecDepth 100000 in
theorem s_l08Farm (X Y : Option Addr) (cx cy : Nat) (fx fy : List Nat) (fr fd fs : Nat) (BB : Nat) (w : World) (hk : BlkL w BB [.slice X fx.length cx, .slice Y fy.length cy, .float .f32 fr, .float .f32 fd, .float .f32 fs]) (h : Rs w X Y fx fy) (hn : sizedF fx fy) (hw : (∀ x ∈ fx, canon .f32 x < 4294967296) ∧ (∀ x ∈ fy, canon .f32 x < 4294967296) ∧ ∀ x ∈ [fr, fd, fs], canon .f32 x < 4294967296) :
    Calls Tryd.prog 72 #[.pointer (some ⟨BB, 0, none⟩)] w fun e w' => e = .returned (.string (farmS fx fy fr fd fs)) ∧ Below w.heap.size w w' := by
  have HB0 : Hid (Below w.heap.size w w) := Lib.hid (Below.refl _ _)
  have HK := Lib.hid hk
  have HCA : Hid (∀ W, Below w.heap.size w W → Calls Tryd.prog 91 #[.slice X fx.length cx] W fun e w' => e = .returned (.string (textS fx)) ∧ Below W.heap.size W w') := Lib.hid (fun W hb => s_l01NText X cx fx W ((h.1).below (below_of HB0.out HB0.out.size hb)) (by have := hn.2.1; omega) (hw.1))
  have zA : (textS fx).size ≤ 3000 := by have h1 := textS_size fx; have h2 : fx.length ≤ 256 := (by have := hn.2.1; omega); omega
  have HCB : Hid (∀ W, Below w.heap.size w W → Calls Tryd.prog 91 #[.slice Y fy.length cy] W fun e w' => e = .returned (.string (textS fy)) ∧ Below W.heap.size W w') := Lib.hid (fun W hb => s_l01NText Y cy fy W ((h.2).below (below_of HB0.out HB0.out.size hb)) (by have := hn.2.1; have := hn.2.2; omega) (hw.2.1))
  have zB : (textS fy).size ≤ 3000 := by have h1 := textS_size fy; have h2 : fy.length ≤ 256 := (by have := hn.2.1; have := hn.2.2; omega); omega
  have HCC : Hid (∀ W g, Below w.heap.size w W → Fl W (some ⟨g, 0, none⟩) [fr, fd, fs] → Calls Tryd.prog 91 #[.slice (some ⟨g, 0, none⟩) 3 3] W fun e w' => e = .returned (.string (textS [fr, fd, fs])) ∧ Below W.heap.size W w') := Lib.hid (fun W g hb hf => s_l01NText _ 3 [fr, fd, fs] W hf (len3 ..) (hw.2.2))
  have zC : (textS [fr, fd, fs]).size ≤ 3000 := by have h1 := textS_size [fr, fd, fs]; have h2 : [fr, fd, fs].length ≤ 256 := (len3 ..); omega
  have HS : Hid (farmS fx fy fr fd fs = textS fx ++ ⟨#[59]⟩ ++ textS fy ++ ⟨#[59]⟩ ++ textS [fr, fd, fs]) := rfl
  generalize farmS fx fy fr fd fs = res at HS ⊢
  generalize textS fx = TA at HCA zA HS
  generalize textS fy = TB at HCB zB HS
  generalize textS [fr, fd, fs] = TC at HCC zC HS
  clear h hn hw hk
  go_enter Tryd.func72, Tryd.ntmps72
  go_wp2_with fail
  refine wp_region_inv4 (fun iq wv v => match iq with
    | 0 => v = .pointer (some ⟨BB, 0, none⟩)
    | 1 => v = .pointer (some ⟨BB, 0, none⟩)
    | 2 => v = .pointer (some ⟨BB, 0, none⟩)
    | 3 => v = .slice X fx.length cx
    | 4 => v = .string TA
    | 5 => v = .string (TA ++ (⟨#[59]⟩))
    | 6 => v = .pointer (some ⟨BB, 0, none⟩)
    | 7 => v = .pointer (some ⟨BB, 0, none⟩)
    | 8 => v = .pointer (some ⟨BB, 1, none⟩)
    | 9 => v = .slice Y fy.length cy
    | 10 => v = .string TB
    | 11 => v = .string (((TA ++ (⟨#[59]⟩))) ++ TB)
    | 12 => v = .string (((((TA ++ (⟨#[59]⟩))) ++ TB)) ++ (⟨#[59]⟩))
    | 13 => v = .pointer (some ⟨BB, 0, none⟩)
    | 14 => v = .pointer (some ⟨BB, 0, none⟩)
    | 15 => v = .pointer (some ⟨BB, 2, none⟩)
    | 16 => v = .float .f32 fr
    | 17 => v = .pointer (some ⟨BB, 0, none⟩)
    | 18 => v = .pointer (some ⟨BB, 0, none⟩)
    | 19 => v = .pointer (some ⟨BB, 3, none⟩)
    | 20 => v = .float .f32 fd
    | 21 => v = .pointer (some ⟨BB, 0, none⟩)
    | 22 => v = .pointer (some ⟨BB, 0, none⟩)
    | 23 => v = .pointer (some ⟨BB, 4, none⟩)
    | 24 => v = .float .f32 fs
    | 25 => ∃ q, v = .slice (some ⟨q, 0, none⟩) 3 3 ∧ Fl wv (some ⟨q, 0, none⟩) [fr, fd, fs]
    | 26 => v = .string TC
    | 27 => v = .string (((((((TA ++ (⟨#[59]⟩))) ++ TB)) ++ (⟨#[59]⟩))) ++ TC)
    | 28 => v = .string (((((((TA ++ (⟨#[59]⟩))) ++ TB)) ++ (⟨#[59]⟩))) ++ TC)
    | _ => False) (fun _ ww => Below w.heap.size w ww) (fun w w' => Below w.heap.size w w') ?hmono (by kernel_rfl) (by kernel_rfl) ((Below.refl _ _).drew) ?hop ?hend
  case hmono =>
    intro i wa wb v hR hV
    rcases i with _ | _ | _ | _ | _ | _ | _ | _ | _ | _ | _ | _ | _ | _ | _ | _ | _ | _ | _ | _ | _ | _ | _ | _ | _ | _ | _ | _ | _ | i
    · exact hV
    · exact hV
    · exact hV
    · exact hV
    · exact hV
    · exact hV
    · exact hV
    · exact hV
    · exact hV
    · exact hV
    · exact hV
    · exact hV
    · exact hV
    · exact hV
    · exact hV
    · exact hV
    · exact hV
    · exact hV
    · exact hV
    · exact hV
    · exact hV
    · exact hV
    · exact hV
    · exact hV
    · exact hV
    · obtain ⟨q, rfl, ho⟩ := hV; exact ⟨q, rfl, ho.below hR⟩
    · exact hV
    · exact hV
    · exact hV
    · exact hV
  case hop =>
    intro q o hq listed act w3 hI hnot hcl hall
    have hB := hI.cls
    obtain ⟨k0, k1, k2, k3, k4⟩ := (HK.out.below hB).five
    rcases q with _ | _ | _ | _ | _ | _ | _ | _ | _ | _ | _ | _ | _ | _ | _ | _ | _ | _ | _ | _ | _ | _ | _ | _ | _ | _ | _ | _ | _ | q
    · simp at hq; subst hq
      have g0 : act.tmps[0]?.getD undef = .pointer (some ⟨BB, 0, none⟩) := hI.kept 0 (by kernel_rfl)
      clear hI hall hnot hcl
      refine .inl ⟨wanted_none rfl, ?_⟩
      unfold Oper.wp
      go_simp
      all_goals first | exact ⟨_, rfl, Below.refl _ _, rfl, hB⟩ | exact ⟨Below.refl _ _, hB⟩ | exact Below.refl _ _
    · simp at hq; subst hq
      have g3 : act.tmps[3]?.getD undef = .pointer (some ⟨BB, 0, none⟩) := hI.has 0 3 rfl (hall ⟨0, .data⟩ (by simp) rfl)
      clear hI hall hnot hcl
      refine .inl ⟨wanted_none rfl, ?_⟩
      unfold Oper.wp
      go_simp
      all_goals first | exact ⟨_, rfl, Below.refl _ _, rfl, hB⟩ | exact ⟨Below.refl _ _, hB⟩ | exact Below.refl _ _
    · simp at hq; subst hq
      have g4 : act.tmps[4]?.getD undef = .pointer (some ⟨BB, 0, none⟩) := hI.has 1 4 rfl (hall ⟨1, .data⟩ (by simp) rfl)
      clear hI hall hnot hcl
      refine .inl ⟨wanted_none rfl, ?_⟩
      unfold Oper.wp
      go_simp
      all_goals first | exact ⟨_, rfl, Below.refl _ _, rfl, hB⟩ | exact ⟨Below.refl _ _, hB⟩ | exact Below.refl _ _
    · simp at hq; subst hq
      have g5 : act.tmps[5]?.getD undef = .pointer (some ⟨BB, 0, none⟩) := hI.has 2 5 rfl (hall ⟨2, .data⟩ (by simp) rfl)
      clear hI hall hnot hcl
      refine .inl ⟨wanted_none rfl, ?_⟩
      unfold Oper.wp
      go_simp
      all_goals first | exact ⟨_, rfl, Below.refl _ _, rfl, hB⟩ | exact ⟨Below.refl _ _, hB⟩ | exact Below.refl _ _
    · simp at hq; subst hq
      have g6 : act.tmps[6]?.getD undef = .slice X fx.length cx := hI.has 3 6 rfl (hall ⟨3, .data⟩ (by simp) rfl)
      clear hI hall hnot hcl
      refine .inl ⟨wanted_none rfl, ?_⟩
      unfold Oper.wp
      go_simp
      refine (HCA.out _ hB).mono ?_
      rintro e w4 ⟨rfl, b4⟩
      exact ⟨_, rfl, b4, rfl, below_of hB hB.size b4⟩
    · simp at hq; subst hq
      have g7 : act.tmps[7]?.getD undef = .string TA := hI.has 4 7 rfl (hall ⟨4, .data⟩ (by simp) rfl)
      clear hI hall hnot hcl
      refine .inl ⟨wanted_none rfl, ?_⟩
      unfold Oper.wp
      go_simp
      rw [if_neg (by omega)]
      go_simp
      all_goals first | exact ⟨_, rfl, Below.refl _ _, rfl, hB⟩ | exact ⟨Below.refl _ _, hB⟩ | exact Below.refl _ _
    · simp at hq; subst hq
      have g0 : act.tmps[0]?.getD undef = .pointer (some ⟨BB, 0, none⟩) := hI.kept 0 (by kernel_rfl)
      clear hI hall hnot hcl
      refine .inl ⟨wanted_none rfl, ?_⟩
      unfold Oper.wp
      go_simp
      all_goals first | exact ⟨_, rfl, Below.refl _ _, rfl, hB⟩ | exact ⟨Below.refl _ _, hB⟩ | exact Below.refl _ _
    · simp at hq; subst hq
      have g9 : act.tmps[9]?.getD undef = .pointer (some ⟨BB, 0, none⟩) := hI.has 6 9 rfl (hall ⟨6, .data⟩ (by simp) rfl)
      clear hI hall hnot hcl
      refine .inl ⟨wanted_none rfl, ?_⟩
      unfold Oper.wp
      go_simp
      all_goals first | exact ⟨_, rfl, Below.refl _ _, rfl, hB⟩ | exact ⟨Below.refl _ _, hB⟩ | exact Below.refl _ _
    · simp at hq; subst hq
      have g10 : act.tmps[10]?.getD undef = .pointer (some ⟨BB, 0, none⟩) := hI.has 7 10 rfl (hall ⟨7, .data⟩ (by simp) rfl)
      clear hI hall hnot hcl
      refine .inl ⟨wanted_none rfl, ?_⟩
      unfold Oper.wp
      go_simp
      all_goals first | exact ⟨_, rfl, Below.refl _ _, rfl, hB⟩ | exact ⟨Below.refl _ _, hB⟩ | exact Below.refl _ _
    · simp at hq; subst hq
      have g11 : act.tmps[11]?.getD undef = .pointer (some ⟨BB, 1, none⟩) := hI.has 8 11 rfl (hall ⟨8, .data⟩ (by simp) rfl)
      clear hI hall hnot hcl
      refine .inl ⟨wanted_none rfl, ?_⟩
      unfold Oper.wp
      go_simp
      all_goals first | exact ⟨_, rfl, Below.refl _ _, rfl, hB⟩ | exact ⟨Below.refl _ _, hB⟩ | exact Below.refl _ _
    · simp at hq; subst hq
      have g12 : act.tmps[12]?.getD undef = .slice Y fy.length cy := hI.has 9 12 rfl (hall ⟨9, .data⟩ (by simp) rfl)
      clear hI hall hnot hcl
      refine .inl ⟨wanted_none rfl, ?_⟩
      unfold Oper.wp
      go_simp
      refine (HCB.out _ hB).mono ?_
      rintro e w4 ⟨rfl, b4⟩
      exact ⟨_, rfl, b4, rfl, below_of hB hB.size b4⟩
    · simp at hq; subst hq
      have g8 : act.tmps[8]?.getD undef = .string (TA ++ (⟨#[59]⟩)) := hI.has 5 8 rfl (hall ⟨5, .data⟩ (by simp) rfl)
      have g13 : act.tmps[13]?.getD undef = .string TB := hI.has 10 13 rfl (hall ⟨10, .data⟩ (by simp) rfl)
      clear hI hall hnot hcl
      refine .inl ⟨wanted_none rfl, ?_⟩
      unfold Oper.wp
      go_simp
      rw [if_neg (by omega)]
      go_simp
      all_goals first | exact ⟨_, rfl, Below.refl _ _, rfl, hB⟩ | exact ⟨Below.refl _ _, hB⟩ | exact Below.refl _ _
    · simp at hq; subst hq
      have g14 : act.tmps[14]?.getD undef = .string (((TA ++ (⟨#[59]⟩))) ++ TB) := hI.has 11 14 rfl (hall ⟨11, .data⟩ (by simp) rfl)
      clear hI hall hnot hcl
      refine .inl ⟨wanted_none rfl, ?_⟩
      unfold Oper.wp
      go_simp
      rw [if_neg (by omega)]
      go_simp
      all_goals first | exact ⟨_, rfl, Below.refl _ _, rfl, hB⟩ | exact ⟨Below.refl _ _, hB⟩ | exact Below.refl _ _
    · simp at hq; subst hq
      have g0 : act.tmps[0]?.getD undef = .pointer (some ⟨BB, 0, none⟩) := hI.kept 0 (by kernel_rfl)
      clear hI hall hnot hcl
      refine .inl ⟨wanted_none rfl, ?_⟩
      unfold Oper.wp
      go_simp
      all_goals first | exact ⟨_, rfl, Below.refl _ _, rfl, hB⟩ | exact ⟨Below.refl _ _, hB⟩ | exact Below.refl _ _
    · simp at hq; subst hq
      have g16 : act.tmps[16]?.getD undef = .pointer (some ⟨BB, 0, none⟩) := hI.has 13 16 rfl (hall ⟨13, .data⟩ (by simp) rfl)
      clear hI hall hnot hcl
      refine .inl ⟨wanted_none rfl, ?_⟩
      unfold Oper.wp
      go_simp
      all_goals first | exact ⟨_, rfl, Below.refl _ _, rfl, hB⟩ | exact ⟨Below.refl _ _, hB⟩ | exact Below.refl _ _
    · simp at hq; subst hq
      have g17 : act.tmps[17]?.getD undef = .pointer (some ⟨BB, 0, none⟩) := hI.has 14 17 rfl (hall ⟨14, .data⟩ (by simp) rfl)
      clear hI hall hnot hcl
      refine .inl ⟨wanted_none rfl, ?_⟩
      unfold Oper.wp
      go_simp
      all_goals first | exact ⟨_, rfl, Below.refl _ _, rfl, hB⟩ | exact ⟨Below.refl _ _, hB⟩ | exact Below.refl _ _
    · simp at hq; subst hq
      have g18 : act.tmps[18]?.getD undef = .pointer (some ⟨BB, 2, none⟩) := hI.has 15 18 rfl (hall ⟨15, .data⟩ (by simp) rfl)
      clear hI hall hnot hcl
      refine .inl ⟨wanted_none rfl, ?_⟩
      unfold Oper.wp
      go_simp
      all_goals first | exact ⟨_, rfl, Below.refl _ _, rfl, hB⟩ | exact ⟨Below.refl _ _, hB⟩ | exact Below.refl _ _
    · simp at hq; subst hq
      have g0 : act.tmps[0]?.getD undef = .pointer (some ⟨BB, 0, none⟩) := hI.kept 0 (by kernel_rfl)
      clear hI hall hnot hcl
      refine .inl ⟨wanted_none rfl, ?_⟩
      unfold Oper.wp
      go_simp
      all_goals first | exact ⟨_, rfl, Below.refl _ _, rfl, hB⟩ | exact ⟨Below.refl _ _, hB⟩ | exact Below.refl _ _
    · simp at hq; subst hq
      have g20 : act.tmps[20]?.getD undef = .pointer (some ⟨BB, 0, none⟩) := hI.has 17 20 rfl (hall ⟨17, .data⟩ (by simp) rfl)
      clear hI hall hnot hcl
      refine .inl ⟨wanted_none rfl, ?_⟩
      unfold Oper.wp
      go_simp
      all_goals first | exact ⟨_, rfl, Below.refl _ _, rfl, hB⟩ | exact ⟨Below.refl _ _, hB⟩ | exact Below.refl _ _
    · simp at hq; subst hq
      have g21 : act.tmps[21]?.getD undef = .pointer (some ⟨BB, 0, none⟩) := hI.has 18 21 rfl (hall ⟨18, .data⟩ (by simp) rfl)
      clear hI hall hnot hcl
      refine .inl ⟨wanted_none rfl, ?_⟩
      unfold Oper.wp
      go_simp
      all_goals first | exact ⟨_, rfl, Below.refl _ _, rfl, hB⟩ | exact ⟨Below.refl _ _, hB⟩ | exact Below.refl _ _
    · simp at hq; subst hq
      have g22 : act.tmps[22]?.getD undef = .pointer (some ⟨BB, 3, none⟩) := hI.has 19 22 rfl (hall ⟨19, .data⟩ (by simp) rfl)
      clear hI hall hnot hcl
      refine .inl ⟨wanted_none rfl, ?_⟩
      unfold Oper.wp
      go_simp
      all_goals first | exact ⟨_, rfl, Below.refl _ _, rfl, hB⟩ | exact ⟨Below.refl _ _, hB⟩ | exact Below.refl _ _
    · simp at hq; subst hq
      have g0 : act.tmps[0]?.getD undef = .pointer (some ⟨BB, 0, none⟩) := hI.kept 0 (by kernel_rfl)
      clear hI hall hnot hcl
      refine .inl ⟨wanted_none rfl, ?_⟩
      unfold Oper.wp
      go_simp
      all_goals first | exact ⟨_, rfl, Below.refl _ _, rfl, hB⟩ | exact ⟨Below.refl _ _, hB⟩ | exact Below.refl _ _
    · simp at hq; subst hq
      have g24 : act.tmps[24]?.getD undef = .pointer (some ⟨BB, 0, none⟩) := hI.has 21 24 rfl (hall ⟨21, .data⟩ (by simp) rfl)
      clear hI hall hnot hcl
      refine .inl ⟨wanted_none rfl, ?_⟩
      unfold Oper.wp
      go_simp
      all_goals first | exact ⟨_, rfl, Below.refl _ _, rfl, hB⟩ | exact ⟨Below.refl _ _, hB⟩ | exact Below.refl _ _
    · simp at hq; subst hq
      have g25 : act.tmps[25]?.getD undef = .pointer (some ⟨BB, 0, none⟩) := hI.has 22 25 rfl (hall ⟨22, .data⟩ (by simp) rfl)
      clear hI hall hnot hcl
      refine .inl ⟨wanted_none rfl, ?_⟩
      unfold Oper.wp
      go_simp
      all_goals first | exact ⟨_, rfl, Below.refl _ _, rfl, hB⟩ | exact ⟨Below.refl _ _, hB⟩ | exact Below.refl _ _
    · simp at hq; subst hq
      have g26 : act.tmps[26]?.getD undef = .pointer (some ⟨BB, 4, none⟩) := hI.has 23 26 rfl (hall ⟨23, .data⟩ (by simp) rfl)
      clear hI hall hnot hcl
      refine .inl ⟨wanted_none rfl, ?_⟩
      unfold Oper.wp
      go_simp
      all_goals first | exact ⟨_, rfl, Below.refl _ _, rfl, hB⟩ | exact ⟨Below.refl _ _, hB⟩ | exact Below.refl _ _
    · simp at hq; subst hq
      have g19 : act.tmps[19]?.getD undef = .float .f32 fr := hI.has 16 19 rfl (hall ⟨16, .data⟩ (by simp) rfl)
      have g23 : act.tmps[23]?.getD undef = .float .f32 fd := hI.has 20 23 rfl (hall ⟨20, .data⟩ (by simp) rfl)
      have g27 : act.tmps[27]?.getD undef = .float .f32 fs := hI.has 24 27 rfl (hall ⟨24, .data⟩ (by simp) rfl)
      clear hI hall hnot hcl
      refine .inl ⟨wanted_none rfl, ?_⟩
      unfold Oper.wp
      go_simp
      first | exact ⟨_, rfl, (Below.refl _ _).alloc (Nat.le_refl _) _, ⟨_, rfl, fl_lit _ [fr, fd, fs] _⟩, hB.alloc hB.size _⟩ | exact ⟨_, rfl, (Below.refl _ _).alloc (Nat.le_refl _) _, ⟨_, rfl, fl_lit _ [fr, fd, fs] _⟩⟩
    · simp at hq; subst hq
      obtain ⟨q25, g28, h25a⟩ := hI.has 25 28 rfl (hall ⟨25, .data⟩ (by simp) rfl)
      clear hI hall hnot hcl
      refine .inl ⟨wanted_none rfl, ?_⟩
      unfold Oper.wp
      go_simp
      refine (HCC.out _ q25 hB h25a).mono ?_
      rintro e w4 ⟨rfl, b4⟩
      exact ⟨_, rfl, b4, rfl, below_of hB hB.size b4⟩
    · simp at hq; subst hq
      have g15 : act.tmps[15]?.getD undef = .string (((((TA ++ (⟨#[59]⟩))) ++ TB)) ++ (⟨#[59]⟩)) := hI.has 12 15 rfl (hall ⟨12, .data⟩ (by simp) rfl)
      have g29 : act.tmps[29]?.getD undef = .string TC := hI.has 26 29 rfl (hall ⟨26, .data⟩ (by simp) rfl)
      clear hI hall hnot hcl
      refine .inl ⟨wanted_none rfl, ?_⟩
      unfold Oper.wp
      go_simp
      rw [if_neg (by omega)]
      go_simp
      all_goals first | exact ⟨_, rfl, Below.refl _ _, rfl, hB⟩ | exact ⟨Below.refl _ _, hB⟩ | exact Below.refl _ _
    · simp at hq; subst hq
      have g30 : act.tmps[30]?.getD undef = .string (((((((TA ++ (⟨#[59]⟩))) ++ TB)) ++ (⟨#[59]⟩))) ++ TC) := hI.has 27 30 rfl (hall ⟨27, .data⟩ (by simp) rfl)
      clear hI hall hnot hcl
      refine .inl ⟨wanted_none rfl, ?_⟩
      unfold Oper.wp
      go_simp
      all_goals first | exact ⟨_, rfl, Below.refl _ _, rfl, hB⟩ | exact ⟨Below.refl _ _, hB⟩ | exact Below.refl _ _
    · simp at hq
  case hend =>
    intro listed act w3 hI hall
    have hB := hI.cls
    obtain ⟨k0, k1, k2, k3, k4⟩ := (HK.out.below hB).five
    have g2 : act.tmps[2]?.getD undef = .string (((((((TA ++ (⟨#[59]⟩))) ++ TB)) ++ (⟨#[59]⟩))) ++ TC) := hI.has 28 2 rfl (hall 28 (by decide))
    have g0 := hI.kept 0 (by kernel_rfl)
    conv at g0 => rhs; whnf
    have g1 : act.tmps[1]?.getD undef = undef := hI.kept 1 (by kernel_rfl)
    have hsz : act.tmps.size = 31 := hI.size.trans (by kernel_rfl)
    have hd := hI.defers
    clear hI hall
    obtain ⟨tt, dd⟩ := act
    simp only at g0 g1 g2 hsz hd
    subst hd
    have hl : tt = #[tt[0]?.getD undef, tt[1]?.getD undef, tt[2]?.getD undef, tt[3]?.getD undef, tt[4]?.getD undef, tt[5]?.getD undef, tt[6]?.getD undef, tt[7]?.getD undef, tt[8]?.getD undef, tt[9]?.getD undef, tt[10]?.getD undef, tt[11]?.getD undef, tt[12]?.getD undef, tt[13]?.getD undef, tt[14]?.getD undef, tt[15]?.getD undef, tt[16]?.getD undef, tt[17]?.getD undef, tt[18]?.getD undef, tt[19]?.getD undef, tt[20]?.getD undef, tt[21]?.getD undef, tt[22]?.getD undef, tt[23]?.getD undef, tt[24]?.getD undef, tt[25]?.getD undef, tt[26]?.getD undef, tt[27]?.getD undef, tt[28]?.getD undef, tt[29]?.getD undef, tt[30]?.getD undef] := (arr_lit hsz).trans rfl
    rw [g0, g1, g2] at hl
    clear g0 g1 g2 hsz
    generalize tt[3]?.getD undef = y3 at hl
    generalize tt[4]?.getD undef = y4 at hl
    generalize tt[5]?.getD undef = y5 at hl
    generalize tt[6]?.getD undef = y6 at hl
    generalize tt[7]?.getD undef = y7 at hl
    generalize tt[8]?.getD undef = y8 at hl
    generalize tt[9]?.getD undef = y9 at hl
    generalize tt[10]?.getD undef = y10 at hl
    generalize tt[11]?.getD undef = y11 at hl
    generalize tt[12]?.getD undef = y12 at hl
    generalize tt[13]?.getD undef = y13 at hl
    generalize tt[14]?.getD undef = y14 at hl
    generalize tt[15]?.getD undef = y15 at hl
    generalize tt[16]?.getD undef = y16 at hl
    generalize tt[17]?.getD undef = y17 at hl
    generalize tt[18]?.getD undef = y18 at hl
    generalize tt[19]?.getD undef = y19 at hl
    generalize tt[20]?.getD undef = y20 at hl
    generalize tt[21]?.getD undef = y21 at hl
    generalize tt[22]?.getD undef = y22 at hl
    generalize tt[23]?.getD undef = y23 at hl
    generalize tt[24]?.getD undef = y24 at hl
    generalize tt[25]?.getD undef = y25 at hl
    generalize tt[26]?.getD undef = y26 at hl
    generalize tt[27]?.getD undef = y27 at hl
    generalize tt[28]?.getD undef = y28 at hl
    generalize tt[29]?.getD undef = y29 at hl
    generalize tt[30]?.getD undef = y30 at hl
    subst hl
    go_wp2
    go_ret
    exact ⟨by rw [HS.out]; rfl, below_of HB0.out HB0.out.size hB⟩
set_option maxHeartbeats 2000000 in
theorem i_FarmText (X Y : Option Addr) (cx cy : Nat) (fx fy : List Nat) (fr fd fs : Nat) (w : World) (h : Rs w X Y fx fy) (hn : FewS fx fy) (hw : (∀ x ∈ fx, canon .f32 x < 4294967296) ∧ (∀ x ∈ fy, canon .f32 x < 4294967296) ∧ ∀ x ∈ [fr, fd, fs], canon .f32 x < 4294967296) (hT : T64 w) :
    Calls Tryd.prog 30 #[.agg #[.slice X fx.length cx, .slice Y fy.length cy, .float .f32 fr, .float .f32 fd, .float .f32 fs]] w fun e w' => e = .returned (.tuple #[.string (farmT fx fy fr fd fs), .bool (frmV fx fy fr fd fs)]) ∧ Below w.heap.size w w' := by
  have HP := Lib.hid h
  have HW := Lib.hid hw
  have HT := Lib.hid hT
  clear h hw hT
  have HV : Calls Tryd.prog 73 #[.agg #[.slice X fx.length cx, .slice Y fy.length cy, .float .f32 fr, .float .f32 fd, .float .f32 fs], .func (.func 74) #[] #[], .func (.func 75) #[] #[]] (w.alloc (.cells #[.slice X fx.length cx, .slice Y fy.length cy, .float .f32 fr, .float .f32 fd, .float .f32 fs] 64)) fun e w' => e = .returned (.tuple #[.string (farmT fx fy fr fd fs), .bool (frmV fx fy fr fd fs)]) ∧ Below w.heap.size w w' := by
    have HB1 : Hid (Below w.heap.size w (w.alloc (.cells #[.slice X fx.length cx, .slice Y fy.length cy, .float .f32 fr, .float .f32 fd, .float .f32 fs] 64))) := Lib.hid ((Below.refl _ _).alloc (Nat.le_refl _) _)
    generalize w.alloc (.cells #[.slice X fx.length cx, .slice Y fy.length cy, .float .f32 fr, .float .f32 fd, .float .f32 fs] 64) = w1 at HB1 ⊢
    have HB2 : Hid (Below w.heap.size w (w1.alloc (.cells #[.slice X fx.length cx, .slice Y fy.length cy, .float .f32 fr, .float .f32 fd, .float .f32 fs] 64))) := Lib.hid (HB1.out.alloc HB1.out.size _)
    have HK : Hid (BlkL (w1.alloc (.cells #[.slice X fx.length cx, .slice Y fy.length cy, .float .f32 fr, .float .f32 fd, .float .f32 fs] 64)) w1.heap.size [.slice X fx.length cx, .slice Y fy.length cy, .float .f32 fr, .float .f32 fd, .float .f32 fs]) := Lib.hid (blkL_at w1 #[.slice X fx.length cx, .slice Y fy.length cy, .float .f32 fr, .float .f32 fd, .float .f32 fs] _ rfl)
    go_enter Tryd.func73, Tryd.ntmps73
    go_wp2_with fail
    generalize w1.alloc (.cells #[.slice X fx.length cx, .slice Y fy.length cy, .float .f32 fr, .float .f32 fd, .float .f32 fs] 64) = w2 at HB2 HK ⊢
    refine (i_ValidFarm X Y cx cy fx fy fr fd fs _ (HP.out.below HB2.out) hn).mono ?_
    rintro e w3 ⟨rfl, hb⟩
    have HB3 : Hid (Below w.heap.size w w3) := Lib.hid (below_of HB2.out HB2.out.size hb)
    have HK3 := Lib.hid (HK.out.below hb)
    clear hb
    cases hv : frmV fx fy fr fd fs
    · have HR : Hid (farmT fx fy fr fd fs = ⟨#[]⟩) := Lib.hid (by unfold farmT; rw [hv]; rfl)
      have HQ := Lib.hid hv
      go_wp2
      go_ret2
      exact ⟨by rw [HR.out, HQ.out]; rfl, HB3.out⟩
    · have HR : Hid (farmT fx fy fr fd fs = farmS fx fy fr fd fs) := Lib.hid (by unfold farmT; rw [hv]; rfl)
      have HQ := Lib.hid hv
      obtain ⟨k0, k1, k2, k3, k4⟩ := HK3.out.five
      go_wp2_with fail
      refine (i_farmText X Y cx cy fx fy fr fd fs _ (HP.out.below HB3.out) (frmV_sized HQ.out) HW.out (HT.out.below HB3.out)).mono ?_
      rintro e w4 ⟨rfl, hb⟩
      have HB4 : Hid (Below w.heap.size w w4) := Lib.hid (below_of HB3.out HB3.out.size hb)
      clear hb
      go_wp2
      go_ret2
      exact ⟨by rw [HR.out, HQ.out]; rfl, HB4.out⟩
  go_enter Tryd.func30, Tryd.ntmps30
  go_wp2_with fail
  refine HV.mono ?_
  rintro e w1 ⟨rfl, hb⟩
  have HB := Lib.hid hb
  clear hb
  go_wp2
  go_ret2
  exact ⟨rfl, HB.out⟩
set_option maxHeartbeats 2000000 in
theorem s_FarmText (X Y : Option Addr) (cx cy : Nat) (fx fy : List Nat) (fr fd fs : Nat) (w : World) (h : Rs w X Y fx fy) (hn : FewS fx fy) (hw : (∀ x ∈ fx, canon .f32 x < 4294967296) ∧ (∀ x ∈ fy, canon .f32 x < 4294967296) ∧ ∀ x ∈ [fr, fd, fs], canon .f32 x < 4294967296) :
    Calls Tryd.prog 28 #[.agg #[.slice X fx.length cx, .slice Y fy.length cy, .float .f32 fr, .float .f32 fd, .float .f32 fs]] w fun e w' => e = .returned (.tuple #[.string (farmT fx fy fr fd fs), .bool (frmV fx fy fr fd fs)]) ∧ Below w.heap.size w w' := by
  have HP := Lib.hid h
  have HW := Lib.hid hw
  clear h hw
  have HB1 : Hid (Below w.heap.size w (w.alloc (.cells #[.slice X fx.length cx, .slice Y fy.length cy, .float .f32 fr, .float .f32 fd, .float .f32 fs] 64))) := Lib.hid ((Below.refl _ _).alloc (Nat.le_refl _) _)
  have HK : Hid (BlkL (w.alloc (.cells #[.slice X fx.length cx, .slice Y fy.length cy, .float .f32 fr, .float .f32 fd, .float .f32 fs] 64)) w.heap.size [.slice X fx.length cx, .slice Y fy.length cy, .float .f32 fr, .float .f32 fd, .float .f32 fs]) := Lib.hid (blkL_at w #[.slice X fx.length cx, .slice Y fy.length cy, .float .f32 fr, .float .f32 fd, .float .f32 fs] _ rfl)
  go_enter Tryd.func28, Tryd.ntmps28
  go_wp2_with fail
  generalize w.alloc (.cells #[.slice X fx.length cx, .slice Y fy.length cy, .float .f32 fr, .float .f32 fd, .float .f32 fs] 64) = w1 at HB1 HK ⊢
  refine (s_l06Is X Y cx cy fx fy fr fd fs _ _ (HP.out.below HB1.out) hn HK.out).mono ?_
  rintro e w2 ⟨rfl, n, hw⟩
  have HB2 : Hid (Below w.heap.size w w2) := Lib.hid (by rw [hw]; exact below_draws HB1.out _)
  have HK2 : Hid (BlkL w2 w.heap.size [.slice X fx.length cx, .slice Y fy.length cy, .float .f32 fr, .float .f32 fd, .float .f32 fs]) := Lib.hid (by rw [hw]; exact HK.out)
  clear hw
  cases hv : frmV fx fy fr fd fs
  · have HR : Hid (farmT fx fy fr fd fs = ⟨#[]⟩) := Lib.hid (by unfold farmT; rw [hv]; rfl)
    have HQ := Lib.hid hv
    go_wp2
    go_ret2
    exact ⟨by rw [HR.out, HQ.out]; rfl, HB2.out⟩
  · have HR : Hid (farmT fx fy fr fd fs = farmS fx fy fr fd fs) := Lib.hid (by unfold farmT; rw [hv]; rfl)
    have HQ := Lib.hid hv
    go_wp2_with fail
    refine (s_l08Farm X Y cx cy fx fy fr fd fs _ _ HK2.out (HP.out.below HB2.out) (frmV_sized HQ.out) HW.out).mono ?_
    rintro e w3 ⟨rfl, hb⟩
    have HB3 : Hid (Below w.heap.size w w3) := Lib.hid (below_of HB2.out HB2.out.size hb)
    clear hb
    go_wp2
    go_ret2
    exact ⟨by rw [HR.out, HQ.out]; rfl, HB3.out⟩
end Go.Proofs.YtpjgmfkjpkeohaaDoor
