/- The text of a profile, both sides. No statement is proved here. -/
import Derived.Test.YtpjgmfkjpkeohaaDoorAirT
import Derived.Test.YtpjgmfkjpkeohaaDoorVal
import Derived.Test.YtpjgmfkjpkeohaaDoorInv4
import Derived.Test.YtpjgmfkjpkeohaaDoorSame
namespace Go.Proofs.YtpjgmfkjpkeohaaDoor
open Go Go.RowKit
/-- the text of a profile -/
def profS (a l d : List Nat) : ByteArray := textS a ++ ⟨#[58]⟩ ++ textS l ++ ⟨#[58]⟩ ++ textS d
def profT (a l d : List Nat) : ByteArray := if validP a l d then profS a l d else ⟨#[]⟩
theorem words_mem {xs : List Nat} (h : Words xs) : ∀ x ∈ xs, canon .f32 x < 4294967296 := by
  intro x hx
  obtain ⟨k, hk, rfl⟩ := List.getElem_of_mem hx
  have := h k hk
  simpa [List.getD, hk] using this
theorem validP_sized {a l d : List Nat} (h : validP a l d = true) : sized a l d := by unfold validP at h; rw [Bool.and_eq_true] at h; exact of_decide_eq_true h.1
theorem blkL3 {w : World} {B : Nat} {v0 v1 v2 : Value} (h : BlkL w B [v0, v1, v2]) : w.cell? ⟨B, 0, none⟩ = some v0 ∧ w.cell? ⟨B, 1, none⟩ = some v1 ∧ w.cell? ⟨B, 2, none⟩ = some v2 :=
  ⟨(h.2 0 _ rfl).1, (h.2 1 _ rfl).1, (h.2 2 _ rfl).1⟩
theorem blk3_of {w : World} {B : Nat} {v0 v1 v2 : Value} (h : BlkL w B [v0, v1, v2]) : Blk3 w B v0 v1 v2 :=
  ⟨h.1, blkL3 h, (h.2 0 _ rfl).2, (h.2 1 _ rfl).2, (h.2 2 _ rfl).2⟩
theorem profS_size {a l d : List Nat} (h : sized a l d) : (profS a l d).size ≤ 3000 := by
  have h1 := textS_size a
  have h2 := textS_size l
  have h3 := textS_size d
  obtain ⟨-, q1, q2, q3⟩ := h
  have e : (profS a l d).size = (textS a).size + 1 + (textS l).size + 1 + (textS d).size := by
    unfold profS
    simp only [ByteArray.size_append]
    rfl
  omega
set_option maxHeartbeats 8000000 in
set_option maxRecDepth 100000 in
theorem i_profileText (A L D : Option Addr) (ca cl cd : Nat) (a l d : List Nat) (w : World) (h : Pf w A L D a l d) (hn : sized a l d) (hw : (∀ x ∈ a, canon .f32 x < 4294967296) ∧ (∀ x ∈ l, canon .f32 x < 4294967296) ∧ ∀ x ∈ d, canon .f32 x < 4294967296) (hT : T64 w) :
    Calls Tryd.prog 49 #[.agg #[.slice A a.length ca, .slice L l.length cl, .slice D d.length cd]] w fun e w' => e = .returned (.string (profS a l d)) ∧ Below w.heap.size w w' := by
  have HB0 : Hid (Below w.heap.size w (w.alloc (.cells #[.slice A a.length ca, .slice L l.length cl, .slice D d.length cd] 28))) := Lib.hid ((Below.refl _ _).alloc (Nat.le_refl _) _)
  have HK : Hid (BlkL (w.alloc (.cells #[.slice A a.length ca, .slice L l.length cl, .slice D d.length cd] 28)) w.heap.size [.slice A a.length ca, .slice L l.length cl, .slice D d.length cd]) := Lib.hid (blkL_at w #[.slice A a.length ca, .slice L l.length cl, .slice D d.length cd] _ rfl)
  obtain ⟨w0, hw0⟩ : ∃ z, z = w.alloc (.cells #[.slice A a.length ca, .slice L l.length cl, .slice D d.length cd] 28) := ⟨_, rfl⟩
  rw [← hw0] at HB0 HK
  obtain ⟨BB, hBB⟩ : ∃ z, z = w.heap.size := ⟨_, rfl⟩
  rw [← hBB] at HK
  have HCA : Hid (∀ W, Below w0.heap.size w0 W → Calls Tryd.prog 97 #[.slice A a.length ca] W fun e w' => e = .returned (.string (textS a)) ∧ Below W.heap.size W w') := Lib.hid (fun W hb => i_numbersText A ca a W ((h.1).below (below_of HB0.out HB0.out.size hb)) (by have := hn.2.1; omega) (hw.1) (hT.below (below_of HB0.out HB0.out.size hb)))
  have zA : (textS a).size ≤ 3000 := by have h1 := textS_size a; have h2 : a.length ≤ 256 := (by have := hn.2.1; omega); omega
  have HCB : Hid (∀ W, Below w0.heap.size w0 W → Calls Tryd.prog 97 #[.slice L l.length cl] W fun e w' => e = .returned (.string (textS l)) ∧ Below W.heap.size W w') := Lib.hid (fun W hb => i_numbersText L cl l W ((h.2.1).below (below_of HB0.out HB0.out.size hb)) (by have := hn.2.1; have := hn.2.2.1; omega) (hw.2.1) (hT.below (below_of HB0.out HB0.out.size hb)))
  have zB : (textS l).size ≤ 3000 := by have h1 := textS_size l; have h2 : l.length ≤ 256 := (by have := hn.2.1; have := hn.2.2.1; omega); omega
  have HCC : Hid (∀ W, Below w0.heap.size w0 W → Calls Tryd.prog 97 #[.slice D d.length cd] W fun e w' => e = .returned (.string (textS d)) ∧ Below W.heap.size W w') := Lib.hid (fun W hb => i_numbersText D cd d W ((h.2.2).below (below_of HB0.out HB0.out.size hb)) (by have := hn.2.1; have := hn.2.2.2; omega) (hw.2.2) (hT.below (below_of HB0.out HB0.out.size hb)))
  have zC : (textS d).size ≤ 3000 := by have h1 := textS_size d; have h2 : d.length ≤ 256 := (by have := hn.2.1; have := hn.2.2.2; omega); omega
  have HS : Hid (profS a l d = textS a ++ ⟨#[58]⟩ ++ textS l ++ ⟨#[58]⟩ ++ textS d) := rfl
  generalize profS a l d = res at HS ⊢
  generalize textS a = TA at HCA zA HS
  generalize textS l = TB at HCB zB HS
  generalize textS d = TC at HCC zC HS
  clear h hn hw hT
  go_enter Tryd.func49, Tryd.ntmps49
  go_wp2_with fail
  rw [← hw0]
  rw [← hBB]
  clear hw0 hBB
  refine wp_region_inv4 (fun iq wv v => match iq with
    | 0 => v = .pointer (some ⟨BB, 0, none⟩)
    | 1 => v = .slice A a.length ca
    | 2 => v = .string TA
    | 3 => v = .string (TA ++ (⟨#[58]⟩))
    | 4 => v = .pointer (some ⟨BB, 1, none⟩)
    | 5 => v = .slice L l.length cl
    | 6 => v = .string TB
    | 7 => v = .string (((TA ++ (⟨#[58]⟩))) ++ TB)
    | 8 => v = .string (((((TA ++ (⟨#[58]⟩))) ++ TB)) ++ (⟨#[58]⟩))
    | 9 => v = .pointer (some ⟨BB, 2, none⟩)
    | 10 => v = .slice D d.length cd
    | 11 => v = .string TC
    | 12 => v = .string (((((((TA ++ (⟨#[58]⟩))) ++ TB)) ++ (⟨#[58]⟩))) ++ TC)
    | 13 => v = .string (((((((TA ++ (⟨#[58]⟩))) ++ TB)) ++ (⟨#[58]⟩))) ++ TC)
    | _ => False) (fun _ ww => Below w0.heap.size w0 ww) (fun w w' => Below w.heap.size w w') ?hmono (by kernel_rfl) (by kernel_rfl) ((Below.refl _ _).drew) ?hop ?hend
  case hmono =>
    intro i wa wb v hR hV
    rcases i with _ | _ | _ | _ | _ | _ | _ | _ | _ | _ | _ | _ | _ | _ | i
    · exact hV
    · exact hV
    · exact hV
    · exact hV
    · exact hV
    · exact hV
    · exact hV
    · exact hV
    · exact hV
    · exact hV
    · exact hV
    · exact hV
    · exact hV
    · exact hV
    · exact hV
  case hop =>
    intro q o hq listed act w3 hI hnot hcl hall
    have hB := hI.cls
    obtain ⟨k0, k1, k2⟩ := blkL3 (HK.out.below hB)
    rcases q with _ | _ | _ | _ | _ | _ | _ | _ | _ | _ | _ | _ | _ | _ | q
    · simp at hq; subst hq
      have g1 : act.tmps[1]?.getD undef = .pointer (some ⟨BB, 0, none⟩) := hI.kept 1 (by kernel_rfl)
      clear hI hall hnot hcl
      refine .inl ⟨wanted_none rfl, ?_⟩
      unfold Oper.wp
      go_simp
      all_goals first | exact ⟨_, rfl, Below.refl _ _, rfl, hB⟩ | exact ⟨Below.refl _ _, hB⟩ | exact Below.refl _ _
    · simp at hq; subst hq
      have g3 : act.tmps[3]?.getD undef = .pointer (some ⟨BB, 0, none⟩) := hI.has 0 3 rfl (hall ⟨0, .data⟩ (by simp) rfl)
      clear hI hall hnot hcl
      refine .inl ⟨wanted_none rfl, ?_⟩
      unfold Oper.wp
      go_simp
      all_goals first | exact ⟨_, rfl, Below.refl _ _, rfl, hB⟩ | exact ⟨Below.refl _ _, hB⟩ | exact Below.refl _ _
    · simp at hq; subst hq
      have g4 : act.tmps[4]?.getD undef = .slice A a.length ca := hI.has 1 4 rfl (hall ⟨1, .data⟩ (by simp) rfl)
      clear hI hall hnot hcl
      refine .inl ⟨wanted_none rfl, ?_⟩
      unfold Oper.wp
      go_simp
      refine (HCA.out _ hB).mono ?_
      rintro e w4 ⟨rfl, b4⟩
      exact ⟨_, rfl, b4, rfl, below_of hB hB.size b4⟩
    · simp at hq; subst hq
      have g5 : act.tmps[5]?.getD undef = .string TA := hI.has 2 5 rfl (hall ⟨2, .data⟩ (by simp) rfl)
      clear hI hall hnot hcl
      refine .inl ⟨wanted_none rfl, ?_⟩
      unfold Oper.wp
      go_simp
      rw [if_neg (by omega)]
      go_simp
      all_goals first | exact ⟨_, rfl, Below.refl _ _, rfl, hB⟩ | exact ⟨Below.refl _ _, hB⟩ | exact Below.refl _ _
    · simp at hq; subst hq
      have g1 : act.tmps[1]?.getD undef = .pointer (some ⟨BB, 0, none⟩) := hI.kept 1 (by kernel_rfl)
      clear hI hall hnot hcl
      refine .inl ⟨wanted_none rfl, ?_⟩
      unfold Oper.wp
      go_simp
      all_goals first | exact ⟨_, rfl, Below.refl _ _, rfl, hB⟩ | exact ⟨Below.refl _ _, hB⟩ | exact Below.refl _ _
    · simp at hq; subst hq
      have g7 : act.tmps[7]?.getD undef = .pointer (some ⟨BB, 1, none⟩) := hI.has 4 7 rfl (hall ⟨4, .data⟩ (by simp) rfl)
      clear hI hall hnot hcl
      refine .inl ⟨wanted_none rfl, ?_⟩
      unfold Oper.wp
      go_simp
      all_goals first | exact ⟨_, rfl, Below.refl _ _, rfl, hB⟩ | exact ⟨Below.refl _ _, hB⟩ | exact Below.refl _ _
    · simp at hq; subst hq
      have g8 : act.tmps[8]?.getD undef = .slice L l.length cl := hI.has 5 8 rfl (hall ⟨5, .data⟩ (by simp) rfl)
      clear hI hall hnot hcl
      refine .inl ⟨wanted_none rfl, ?_⟩
      unfold Oper.wp
      go_simp
      refine (HCB.out _ hB).mono ?_
      rintro e w4 ⟨rfl, b4⟩
      exact ⟨_, rfl, b4, rfl, below_of hB hB.size b4⟩
    · simp at hq; subst hq
      have g6 : act.tmps[6]?.getD undef = .string (TA ++ (⟨#[58]⟩)) := hI.has 3 6 rfl (hall ⟨3, .data⟩ (by simp) rfl)
      have g9 : act.tmps[9]?.getD undef = .string TB := hI.has 6 9 rfl (hall ⟨6, .data⟩ (by simp) rfl)
      clear hI hall hnot hcl
      refine .inl ⟨wanted_none rfl, ?_⟩
      unfold Oper.wp
      go_simp
      rw [if_neg (by omega)]
      go_simp
      all_goals first | exact ⟨_, rfl, Below.refl _ _, rfl, hB⟩ | exact ⟨Below.refl _ _, hB⟩ | exact Below.refl _ _
    · simp at hq; subst hq
      have g10 : act.tmps[10]?.getD undef = .string (((TA ++ (⟨#[58]⟩))) ++ TB) := hI.has 7 10 rfl (hall ⟨7, .data⟩ (by simp) rfl)
      clear hI hall hnot hcl
      refine .inl ⟨wanted_none rfl, ?_⟩
      unfold Oper.wp
      go_simp
      rw [if_neg (by omega)]
      go_simp
      all_goals first | exact ⟨_, rfl, Below.refl _ _, rfl, hB⟩ | exact ⟨Below.refl _ _, hB⟩ | exact Below.refl _ _
    · simp at hq; subst hq
      have g1 : act.tmps[1]?.getD undef = .pointer (some ⟨BB, 0, none⟩) := hI.kept 1 (by kernel_rfl)
      clear hI hall hnot hcl
      refine .inl ⟨wanted_none rfl, ?_⟩
      unfold Oper.wp
      go_simp
      all_goals first | exact ⟨_, rfl, Below.refl _ _, rfl, hB⟩ | exact ⟨Below.refl _ _, hB⟩ | exact Below.refl _ _
    · simp at hq; subst hq
      have g12 : act.tmps[12]?.getD undef = .pointer (some ⟨BB, 2, none⟩) := hI.has 9 12 rfl (hall ⟨9, .data⟩ (by simp) rfl)
      clear hI hall hnot hcl
      refine .inl ⟨wanted_none rfl, ?_⟩
      unfold Oper.wp
      go_simp
      all_goals first | exact ⟨_, rfl, Below.refl _ _, rfl, hB⟩ | exact ⟨Below.refl _ _, hB⟩ | exact Below.refl _ _
    · simp at hq; subst hq
      have g13 : act.tmps[13]?.getD undef = .slice D d.length cd := hI.has 10 13 rfl (hall ⟨10, .data⟩ (by simp) rfl)
      clear hI hall hnot hcl
      refine .inl ⟨wanted_none rfl, ?_⟩
      unfold Oper.wp
      go_simp
      refine (HCC.out _ hB).mono ?_
      rintro e w4 ⟨rfl, b4⟩
      exact ⟨_, rfl, b4, rfl, below_of hB hB.size b4⟩
    · simp at hq; subst hq
      have g11 : act.tmps[11]?.getD undef = .string (((((TA ++ (⟨#[58]⟩))) ++ TB)) ++ (⟨#[58]⟩)) := hI.has 8 11 rfl (hall ⟨8, .data⟩ (by simp) rfl)
      have g14 : act.tmps[14]?.getD undef = .string TC := hI.has 11 14 rfl (hall ⟨11, .data⟩ (by simp) rfl)
      clear hI hall hnot hcl
      refine .inl ⟨wanted_none rfl, ?_⟩
      unfold Oper.wp
      go_simp
      rw [if_neg (by omega)]
      go_simp
      all_goals first | exact ⟨_, rfl, Below.refl _ _, rfl, hB⟩ | exact ⟨Below.refl _ _, hB⟩ | exact Below.refl _ _
    · simp at hq; subst hq
      have g15 : act.tmps[15]?.getD undef = .string (((((((TA ++ (⟨#[58]⟩))) ++ TB)) ++ (⟨#[58]⟩))) ++ TC) := hI.has 12 15 rfl (hall ⟨12, .data⟩ (by simp) rfl)
      clear hI hall hnot hcl
      refine .inl ⟨wanted_none rfl, ?_⟩
      unfold Oper.wp
      go_simp
      all_goals first | exact ⟨_, rfl, Below.refl _ _, rfl, hB⟩ | exact ⟨Below.refl _ _, hB⟩ | exact Below.refl _ _
    · simp at hq
  case hend =>
    intro listed act w3 hI hall
    have hB := hI.cls
    obtain ⟨k0, k1, k2⟩ := blkL3 (HK.out.below hB)
    have g2 : act.tmps[2]?.getD undef = .string (((((((TA ++ (⟨#[58]⟩))) ++ TB)) ++ (⟨#[58]⟩))) ++ TC) := hI.has 13 2 rfl (hall 13 (by decide))
    have g0 := hI.kept 0 (by kernel_rfl)
    conv at g0 => rhs; whnf
    have g1 := hI.kept 1 (by kernel_rfl)
    conv at g1 => rhs; whnf
    have hsz : act.tmps.size = 16 := hI.size.trans (by kernel_rfl)
    have hd := hI.defers
    clear hI hall
    obtain ⟨tt, dd⟩ := act
    simp only at g0 g1 g2 hsz hd
    subst hd
    have hl : tt = #[tt[0]?.getD undef, tt[1]?.getD undef, tt[2]?.getD undef, tt[3]?.getD undef, tt[4]?.getD undef, tt[5]?.getD undef, tt[6]?.getD undef, tt[7]?.getD undef, tt[8]?.getD undef, tt[9]?.getD undef, tt[10]?.getD undef, tt[11]?.getD undef, tt[12]?.getD undef, tt[13]?.getD undef, tt[14]?.getD undef, tt[15]?.getD undef] := (arr_lit hsz).trans rfl
    rw [g0, g1, g2] at hl
    clear g0 g1 g2 hsz
    generalize tt[3]?.getD undef = y3 at hl
    generalize tt[4]?.getD undef = y4 at hl
    generalize tt[5]?.getD undef = y5 at hl
    generalize tt[6]?.getD undef = y6 at hl
    generalize tt[7]?.getD undef = y7 at hl
    generalize tt[8]?.getD undef = y8 at hl
    generalize tt[9]?.getD undef = y9 at hl
    generalize tt[10]?.getD undef = y10 at hl
    generalize tt[11]?.getD undef = y11 at hl
    generalize tt[12]?.getD undef = y12 at hl
    generalize tt[13]?.getD undef = y13 at hl
    generalize tt[14]?.getD undef = y14 at hl
    generalize tt[15]?.getD undef = y15 at hl
    subst hl
    go_wp2
    go_ret
    exact ⟨by rw [HS.out]; rfl, below_of HB0.out HB0.out.size hB⟩
set_option maxHeartbeats 8000000 in
set_option maxRecDepth 100000 in
theorem s_l08Profile (A L D : Option Addr) (ca cl cd : Nat) (a l d : List Nat) (BB : Nat) (w : World) (hk : BlkL w BB [.slice A a.length ca, .slice L l.length cl, .slice D d.length cd]) (h : Pf w A L D a l d) (hn : sized a l d) (hw : (∀ x ∈ a, canon .f32 x < 4294967296) ∧ (∀ x ∈ l, canon .f32 x < 4294967296) ∧ ∀ x ∈ d, canon .f32 x < 4294967296) :
    Calls Tryd.prog 45 #[.pointer (some ⟨BB, 0, none⟩)] w fun e w' => e = .returned (.string (profS a l d)) ∧ Below w.heap.size w w' := by
  have HB0 : Hid (Below w.heap.size w w) := Lib.hid (Below.refl _ _)
  have HK := Lib.hid hk
  have HCA : Hid (∀ W, Below w.heap.size w W → Calls Tryd.prog 91 #[.slice A a.length ca] W fun e w' => e = .returned (.string (textS a)) ∧ Below W.heap.size W w') := Lib.hid (fun W hb => s_l01NText A ca a W ((h.1).below (below_of HB0.out HB0.out.size hb)) (by have := hn.2.1; omega) (hw.1))
  have zA : (textS a).size ≤ 3000 := by have h1 := textS_size a; have h2 : a.length ≤ 256 := (by have := hn.2.1; omega); omega
  have HCB : Hid (∀ W, Below w.heap.size w W → Calls Tryd.prog 91 #[.slice L l.length cl] W fun e w' => e = .returned (.string (textS l)) ∧ Below W.heap.size W w') := Lib.hid (fun W hb => s_l01NText L cl l W ((h.2.1).below (below_of HB0.out HB0.out.size hb)) (by have := hn.2.1; have := hn.2.2.1; omega) (hw.2.1))
  have zB : (textS l).size ≤ 3000 := by have h1 := textS_size l; have h2 : l.length ≤ 256 := (by have := hn.2.1; have := hn.2.2.1; omega); omega
  have HCC : Hid (∀ W, Below w.heap.size w W → Calls Tryd.prog 91 #[.slice D d.length cd] W fun e w' => e = .returned (.string (textS d)) ∧ Below W.heap.size W w') := Lib.hid (fun W hb => s_l01NText D cd d W ((h.2.2).below (below_of HB0.out HB0.out.size hb)) (by have := hn.2.1; have := hn.2.2.2; omega) (hw.2.2))
  have zC : (textS d).size ≤ 3000 := by have h1 := textS_size d; have h2 : d.length ≤ 256 := (by have := hn.2.1; have := hn.2.2.2; omega); omega
  have HS : Hid (profS a l d = textS a ++ ⟨#[58]⟩ ++ textS l ++ ⟨#[58]⟩ ++ textS d) := rfl
  generalize profS a l d = res at HS ⊢
  generalize textS a = TA at HCA zA HS
  generalize textS l = TB at HCB zB HS
  generalize textS d = TC at HCC zC HS
  clear h hn hw hk
  go_enter Tryd.func45, Tryd.ntmps45
  go_wp2_with fail
  refine wp_region_inv4 (fun iq wv v => match iq with
    | 0 => v = .pointer (some ⟨BB, 0, none⟩)
    | 1 => v = .pointer (some ⟨BB, 0, none⟩)
    | 2 => v = .pointer (some ⟨BB, 0, none⟩)
    | 3 => v = .slice A a.length ca
    | 4 => v = .string TA
    | 5 => v = .string (TA ++ (⟨#[58]⟩))
    | 6 => v = .pointer (some ⟨BB, 0, none⟩)
    | 7 => v = .pointer (some ⟨BB, 0, none⟩)
    | 8 => v = .pointer (some ⟨BB, 1, none⟩)
    | 9 => v = .slice L l.length cl
    | 10 => v = .string TB
    | 11 => v = .string (((TA ++ (⟨#[58]⟩))) ++ TB)
    | 12 => v = .string (((((TA ++ (⟨#[58]⟩))) ++ TB)) ++ (⟨#[58]⟩))
    | 13 => v = .pointer (some ⟨BB, 0, none⟩)
    | 14 => v = .pointer (some ⟨BB, 0, none⟩)
    | 15 => v = .pointer (some ⟨BB, 2, none⟩)
    | 16 => v = .slice D d.length cd
    | 17 => v = .string TC
    | 18 => v = .string (((((((TA ++ (⟨#[58]⟩))) ++ TB)) ++ (⟨#[58]⟩))) ++ TC)
    | 19 => v = .string (((((((TA ++ (⟨#[58]⟩))) ++ TB)) ++ (⟨#[58]⟩))) ++ TC)
    | _ => False) (fun _ ww => Below w.heap.size w ww) (fun w w' => Below w.heap.size w w') ?hmono (by kernel_rfl) (by kernel_rfl) ((Below.refl _ _).drew) ?hop ?hend
  case hmono =>
    intro i wa wb v hR hV
    rcases i with _ | _ | _ | _ | _ | _ | _ | _ | _ | _ | _ | _ | _ | _ | _ | _ | _ | _ | _ | _ | i
    · exact hV
    · exact hV
    · exact hV
    · exact hV
    · exact hV
    · exact hV
    · exact hV
    · exact hV
    · exact hV
    · exact hV
    · exact hV
    · exact hV
    · exact hV
    · exact hV
    · exact hV
    · exact hV
    · exact hV
    · exact hV
    · exact hV
    · exact hV
    · exact hV
  case hop =>
    intro q o hq listed act w3 hI hnot hcl hall
    have hB := hI.cls
    obtain ⟨k0, k1, k2⟩ := blkL3 (HK.out.below hB)
    rcases q with _ | _ | _ | _ | _ | _ | _ | _ | _ | _ | _ | _ | _ | _ | _ | _ | _ | _ | _ | _ | q
    · simp at hq; subst hq
      have g0 : act.tmps[0]?.getD undef = .pointer (some ⟨BB, 0, none⟩) := hI.kept 0 (by kernel_rfl)
      clear hI hall hnot hcl
      refine .inl ⟨wanted_none rfl, ?_⟩
      unfold Oper.wp
      go_simp
      all_goals first | exact ⟨_, rfl, Below.refl _ _, rfl, hB⟩ | exact ⟨Below.refl _ _, hB⟩ | exact Below.refl _ _
    · simp at hq; subst hq
      have g3 : act.tmps[3]?.getD undef = .pointer (some ⟨BB, 0, none⟩) := hI.has 0 3 rfl (hall ⟨0, .data⟩ (by simp) rfl)
      clear hI hall hnot hcl
      refine .inl ⟨wanted_none rfl, ?_⟩
      unfold Oper.wp
      go_simp
      all_goals first | exact ⟨_, rfl, Below.refl _ _, rfl, hB⟩ | exact ⟨Below.refl _ _, hB⟩ | exact Below.refl _ _
    · simp at hq; subst hq
      have g4 : act.tmps[4]?.getD undef = .pointer (some ⟨BB, 0, none⟩) := hI.has 1 4 rfl (hall ⟨1, .data⟩ (by simp) rfl)
      clear hI hall hnot hcl
      refine .inl ⟨wanted_none rfl, ?_⟩
      unfold Oper.wp
      go_simp
      all_goals first | exact ⟨_, rfl, Below.refl _ _, rfl, hB⟩ | exact ⟨Below.refl _ _, hB⟩ | exact Below.refl _ _
    · simp at hq; subst hq
      have g5 : act.tmps[5]?.getD undef = .pointer (some ⟨BB, 0, none⟩) := hI.has 2 5 rfl (hall ⟨2, .data⟩ (by simp) rfl)
      clear hI hall hnot hcl
      refine .inl ⟨wanted_none rfl, ?_⟩
      unfold Oper.wp
      go_simp
      all_goals first | exact ⟨_, rfl, Below.refl _ _, rfl, hB⟩ | exact ⟨Below.refl _ _, hB⟩ | exact Below.refl _ _
    · simp at hq; subst hq
      have g6 : act.tmps[6]?.getD undef = .slice A a.length ca := hI.has 3 6 rfl (hall ⟨3, .data⟩ (by simp) rfl)
      clear hI hall hnot hcl
      refine .inl ⟨wanted_none rfl, ?_⟩
      unfold Oper.wp
      go_simp
      refine (HCA.out _ hB).mono ?_
      rintro e w4 ⟨rfl, b4⟩
      exact ⟨_, rfl, b4, rfl, below_of hB hB.size b4⟩
    · simp at hq; subst hq
      have g7 : act.tmps[7]?.getD undef = .string TA := hI.has 4 7 rfl (hall ⟨4, .data⟩ (by simp) rfl)
      clear hI hall hnot hcl
      refine .inl ⟨wanted_none rfl, ?_⟩
      unfold Oper.wp
      go_simp
      rw [if_neg (by omega)]
      go_simp
      all_goals first | exact ⟨_, rfl, Below.refl _ _, rfl, hB⟩ | exact ⟨Below.refl _ _, hB⟩ | exact Below.refl _ _
    · simp at hq; subst hq
      have g0 : act.tmps[0]?.getD undef = .pointer (some ⟨BB, 0, none⟩) := hI.kept 0 (by kernel_rfl)
      clear hI hall hnot hcl
      refine .inl ⟨wanted_none rfl, ?_⟩
      unfold Oper.wp
      go_simp
      all_goals first | exact ⟨_, rfl, Below.refl _ _, rfl, hB⟩ | exact ⟨Below.refl _ _, hB⟩ | exact Below.refl _ _
    · simp at hq; subst hq
      have g9 : act.tmps[9]?.getD undef = .pointer (some ⟨BB, 0, none⟩) := hI.has 6 9 rfl (hall ⟨6, .data⟩ (by simp) rfl)
      clear hI hall hnot hcl
      refine .inl ⟨wanted_none rfl, ?_⟩
      unfold Oper.wp
      go_simp
      all_goals first | exact ⟨_, rfl, Below.refl _ _, rfl, hB⟩ | exact ⟨Below.refl _ _, hB⟩ | exact Below.refl _ _
    · simp at hq; subst hq
      have g10 : act.tmps[10]?.getD undef = .pointer (some ⟨BB, 0, none⟩) := hI.has 7 10 rfl (hall ⟨7, .data⟩ (by simp) rfl)
      clear hI hall hnot hcl
      refine .inl ⟨wanted_none rfl, ?_⟩
      unfold Oper.wp
      go_simp
      all_goals first | exact ⟨_, rfl, Below.refl _ _, rfl, hB⟩ | exact ⟨Below.refl _ _, hB⟩ | exact Below.refl _ _
    · simp at hq; subst hq
      have g11 : act.tmps[11]?.getD undef = .pointer (some ⟨BB, 1, none⟩) := hI.has 8 11 rfl (hall ⟨8, .data⟩ (by simp) rfl)
      clear hI hall hnot hcl
      refine .inl ⟨wanted_none rfl, ?_⟩
      unfold Oper.wp
      go_simp
      all_goals first | exact ⟨_, rfl, Below.refl _ _, rfl, hB⟩ | exact ⟨Below.refl _ _, hB⟩ | exact Below.refl _ _
    · simp at hq; subst hq
      have g12 : act.tmps[12]?.getD undef = .slice L l.length cl := hI.has 9 12 rfl (hall ⟨9, .data⟩ (by simp) rfl)
      clear hI hall hnot hcl
      refine .inl ⟨wanted_none rfl, ?_⟩
      unfold Oper.wp
      go_simp
      refine (HCB.out _ hB).mono ?_
      rintro e w4 ⟨rfl, b4⟩
      exact ⟨_, rfl, b4, rfl, below_of hB hB.size b4⟩
    · simp at hq; subst hq
      have g8 : act.tmps[8]?.getD undef = .string (TA ++ (⟨#[58]⟩)) := hI.has 5 8 rfl (hall ⟨5, .data⟩ (by simp) rfl)
      have g13 : act.tmps[13]?.getD undef = .string TB := hI.has 10 13 rfl (hall ⟨10, .data⟩ (by simp) rfl)
      clear hI hall hnot hcl
      refine .inl ⟨wanted_none rfl, ?_⟩
      unfold Oper.wp
      go_simp
      rw [if_neg (by omega)]
      go_simp
      all_goals first | exact ⟨_, rfl, Below.refl _ _, rfl, hB⟩ | exact ⟨Below.refl _ _, hB⟩ | exact Below.refl _ _
    · simp at hq; subst hq
      have g14 : act.tmps[14]?.getD undef = .string (((TA ++ (⟨#[58]⟩))) ++ TB) := hI.has 11 14 rfl (hall ⟨11, .data⟩ (by simp) rfl)
      clear hI hall hnot hcl
      refine .inl ⟨wanted_none rfl, ?_⟩
      unfold Oper.wp
      go_simp
      rw [if_neg (by omega)]
      go_simp
      all_goals first | exact ⟨_, rfl, Below.refl _ _, rfl, hB⟩ | exact ⟨Below.refl _ _, hB⟩ | exact Below.refl _ _
    · simp at hq; subst hq
      have g0 : act.tmps[0]?.getD undef = .pointer (some ⟨BB, 0, none⟩) := hI.kept 0 (by kernel_rfl)
      clear hI hall hnot hcl
      refine .inl ⟨wanted_none rfl, ?_⟩
      unfold Oper.wp
      go_simp
      all_goals first | exact ⟨_, rfl, Below.refl _ _, rfl, hB⟩ | exact ⟨Below.refl _ _, hB⟩ | exact Below.refl _ _
    · simp at hq; subst hq
      have g16 : act.tmps[16]?.getD undef = .pointer (some ⟨BB, 0, none⟩) := hI.has 13 16 rfl (hall ⟨13, .data⟩ (by simp) rfl)
      clear hI hall hnot hcl
      refine .inl ⟨wanted_none rfl, ?_⟩
      unfold Oper.wp
      go_simp
      all_goals first | exact ⟨_, rfl, Below.refl _ _, rfl, hB⟩ | exact ⟨Below.refl _ _, hB⟩ | exact Below.refl _ _
    · simp at hq; subst hq
      have g17 : act.tmps[17]?.getD undef = .pointer (some ⟨BB, 0, none⟩) := hI.has 14 17 rfl (hall ⟨14, .data⟩ (by simp) rfl)
      clear hI hall hnot hcl
      refine .inl ⟨wanted_none rfl, ?_⟩
      unfold Oper.wp
      go_simp
      all_goals first | exact ⟨_, rfl, Below.refl _ _, rfl, hB⟩ | exact ⟨Below.refl _ _, hB⟩ | exact Below.refl _ _
    · simp at hq; subst hq
      have g18 : act.tmps[18]?.getD undef = .pointer (some ⟨BB, 2, none⟩) := hI.has 15 18 rfl (hall ⟨15, .data⟩ (by simp) rfl)
      clear hI hall hnot hcl
      refine .inl ⟨wanted_none rfl, ?_⟩
      unfold Oper.wp
      go_simp
      all_goals first | exact ⟨_, rfl, Below.refl _ _, rfl, hB⟩ | exact ⟨Below.refl _ _, hB⟩ | exact Below.refl _ _
    · simp at hq; subst hq
      have g19 : act.tmps[19]?.getD undef = .slice D d.length cd := hI.has 16 19 rfl (hall ⟨16, .data⟩ (by simp) rfl)
      clear hI hall hnot hcl
      refine .inl ⟨wanted_none rfl, ?_⟩
      unfold Oper.wp
      go_simp
      refine (HCC.out _ hB).mono ?_
      rintro e w4 ⟨rfl, b4⟩
      exact ⟨_, rfl, b4, rfl, below_of hB hB.size b4⟩
    · simp at hq; subst hq
      have g15 : act.tmps[15]?.getD undef = .string (((((TA ++ (⟨#[58]⟩))) ++ TB)) ++ (⟨#[58]⟩)) := hI.has 12 15 rfl (hall ⟨12, .data⟩ (by simp) rfl)
      have g20 : act.tmps[20]?.getD undef = .string TC := hI.has 17 20 rfl (hall ⟨17, .data⟩ (by simp) rfl)
      clear hI hall hnot hcl
      refine .inl ⟨wanted_none rfl, ?_⟩
      unfold Oper.wp
      go_simp
      rw [if_neg (by omega)]
      go_simp
      all_goals first | exact ⟨_, rfl, Below.refl _ _, rfl, hB⟩ | exact ⟨Below.refl _ _, hB⟩ | exact Below.refl _ _
    · simp at hq; subst hq
      have g21 : act.tmps[21]?.getD undef = .string (((((((TA ++ (⟨#[58]⟩))) ++ TB)) ++ (⟨#[58]⟩))) ++ TC) := hI.has 18 21 rfl (hall ⟨18, .data⟩ (by simp) rfl)
      clear hI hall hnot hcl
      refine .inl ⟨wanted_none rfl, ?_⟩
      unfold Oper.wp
      go_simp
      all_goals first | exact ⟨_, rfl, Below.refl _ _, rfl, hB⟩ | exact ⟨Below.refl _ _, hB⟩ | exact Below.refl _ _
    · simp at hq
  case hend =>
    intro listed act w3 hI hall
    have hB := hI.cls
    obtain ⟨k0, k1, k2⟩ := blkL3 (HK.out.below hB)
    have g2 : act.tmps[2]?.getD undef = .string (((((((TA ++ (⟨#[58]⟩))) ++ TB)) ++ (⟨#[58]⟩))) ++ TC) := hI.has 19 2 rfl (hall 19 (by decide))
    have g0 := hI.kept 0 (by kernel_rfl)
    conv at g0 => rhs; whnf
    have g1 : act.tmps[1]?.getD undef = undef := hI.kept 1 (by kernel_rfl)
    have hsz : act.tmps.size = 22 := hI.size.trans (by kernel_rfl)
    have hd := hI.defers
    clear hI hall
    obtain ⟨tt, dd⟩ := act
    simp only at g0 g1 g2 hsz hd
    subst hd
    have hl : tt = #[tt[0]?.getD undef, tt[1]?.getD undef, tt[2]?.getD undef, tt[3]?.getD undef, tt[4]?.getD undef, tt[5]?.getD undef, tt[6]?.getD undef, tt[7]?.getD undef, tt[8]?.getD undef, tt[9]?.getD undef, tt[10]?.getD undef, tt[11]?.getD undef, tt[12]?.getD undef, tt[13]?.getD undef, tt[14]?.getD undef, tt[15]?.getD undef, tt[16]?.getD undef, tt[17]?.getD undef, tt[18]?.getD undef, tt[19]?.getD undef, tt[20]?.getD undef, tt[21]?.getD undef] := (arr_lit hsz).trans rfl
    rw [g0, g1, g2] at hl
    clear g0 g1 g2 hsz
    generalize tt[3]?.getD undef = y3 at hl
    generalize tt[4]?.getD undef = y4 at hl
    generalize tt[5]?.getD undef = y5 at hl
    generalize tt[6]?.getD undef = y6 at hl
    generalize tt[7]?.getD undef = y7 at hl
    generalize tt[8]?.getD undef = y8 at hl
    generalize tt[9]?.getD undef = y9 at hl
    generalize tt[10]?.getD undef = y10 at hl
    generalize tt[11]?.getD undef = y11 at hl
    generalize tt[12]?.getD undef = y12 at hl
    generalize tt[13]?.getD undef = y13 at hl
    generalize tt[14]?.getD undef = y14 at hl
    generalize tt[15]?.getD undef = y15 at hl
    generalize tt[16]?.getD undef = y16 at hl
    generalize tt[17]?.getD undef = y17 at hl
    generalize tt[18]?.getD undef = y18 at hl
    generalize tt[19]?.getD undef = y19 at hl
    generalize tt[20]?.getD undef = y20 at hl
    generalize tt[21]?.getD undef = y21 at hl
    subst hl
    go_wp2
    go_ret
    exact ⟨by rw [HS.out]; rfl, below_of HB0.out HB0.out.size hB⟩
set_option maxHeartbeats 2000000 in
theorem i_ProfileText (A L D : Option Addr) (ca cl cd : Nat) (a l d : List Nat) (w : World) (h : Pf w A L D a l d) (hn : Few a l d) (hw : (∀ x ∈ a, canon .f32 x < 4294967296) ∧ (∀ x ∈ l, canon .f32 x < 4294967296) ∧ ∀ x ∈ d, canon .f32 x < 4294967296) (hT : T64 w) :
    Calls Tryd.prog 14 #[.agg #[.slice A a.length ca, .slice L l.length cl, .slice D d.length cd]] w fun e w' => e = .returned (.tuple #[.string (profT a l d), .bool (validP a l d)]) ∧ Below w.heap.size w w' := by
  have HP := Lib.hid h
  have HW := Lib.hid hw
  have HT := Lib.hid hT
  clear h hw hT
  have HV : Calls Tryd.prog 47 #[.agg #[.slice A a.length ca, .slice L l.length cl, .slice D d.length cd], .func (.func 48) #[] #[], .func (.func 49) #[] #[]] (w.alloc (.cells #[.slice A a.length ca, .slice L l.length cl, .slice D d.length cd] 28)) fun e w' => e = .returned (.tuple #[.string (profT a l d), .bool (validP a l d)]) ∧ Below w.heap.size w w' := by
    have HB1 : Hid (Below w.heap.size w (w.alloc (.cells #[.slice A a.length ca, .slice L l.length cl, .slice D d.length cd] 28))) := Lib.hid ((Below.refl _ _).alloc (Nat.le_refl _) _)
    generalize w.alloc (.cells #[.slice A a.length ca, .slice L l.length cl, .slice D d.length cd] 28) = w1 at HB1 ⊢
    have HB2 : Hid (Below w.heap.size w (w1.alloc (.cells #[.slice A a.length ca, .slice L l.length cl, .slice D d.length cd] 28))) := Lib.hid (HB1.out.alloc HB1.out.size _)
    have HK : Hid (BlkL (w1.alloc (.cells #[.slice A a.length ca, .slice L l.length cl, .slice D d.length cd] 28)) w1.heap.size [.slice A a.length ca, .slice L l.length cl, .slice D d.length cd]) := Lib.hid (blkL_at w1 #[.slice A a.length ca, .slice L l.length cl, .slice D d.length cd] _ rfl)
    go_enter Tryd.func47, Tryd.ntmps47
    go_wp2_with fail
    generalize w1.alloc (.cells #[.slice A a.length ca, .slice L l.length cl, .slice D d.length cd] 28) = w2 at HB2 HK ⊢
    refine (i_ValidProfile A L D ca cl cd a l d _ (HP.out.below HB2.out) hn).mono ?_
    rintro e w3 ⟨rfl, hb⟩
    have HB3 : Hid (Below w.heap.size w w3) := Lib.hid (below_of HB2.out HB2.out.size hb)
    have HK3 := Lib.hid (HK.out.below hb)
    clear hb
    cases hv : validP a l d
    · have HR : Hid (profT a l d = ⟨#[]⟩) := Lib.hid (by unfold profT; rw [hv]; rfl)
      have HQ := Lib.hid hv
      go_wp2
      go_ret2
      exact ⟨by rw [HR.out, HQ.out]; rfl, HB3.out⟩
    · have HR : Hid (profT a l d = profS a l d) := Lib.hid (by unfold profT; rw [hv]; rfl)
      have HQ := Lib.hid hv
      obtain ⟨k0, k1, k2⟩ := blkL3 HK3.out
      go_wp2_with fail
      refine (i_profileText A L D ca cl cd a l d _ (HP.out.below HB3.out) (validP_sized HQ.out) HW.out (HT.out.below HB3.out)).mono ?_
      rintro e w4 ⟨rfl, hb⟩
      have HB4 : Hid (Below w.heap.size w w4) := Lib.hid (below_of HB3.out HB3.out.size hb)
      clear hb
      go_wp2
      go_ret2
      exact ⟨by rw [HR.out, HQ.out]; rfl, HB4.out⟩
  go_enter Tryd.func14, Tryd.ntmps14
  go_wp2_with fail
  refine HV.mono ?_
  rintro e w1 ⟨rfl, hb⟩
  have HB := Lib.hid hb
  clear hb
  go_wp2
  go_ret2
  exact ⟨rfl, HB.out⟩
set_option maxHeartbeats 2000000 in
theorem s_ProfileText (A L D : Option Addr) (ca cl cd : Nat) (a l d : List Nat) (w : World) (h : Pf w A L D a l d) (hn : Few a l d) (hw : (∀ x ∈ a, canon .f32 x < 4294967296) ∧ (∀ x ∈ l, canon .f32 x < 4294967296) ∧ ∀ x ∈ d, canon .f32 x < 4294967296) :
    Calls Tryd.prog 12 #[.agg #[.slice A a.length ca, .slice L l.length cl, .slice D d.length cd]] w fun e w' => e = .returned (.tuple #[.string (profT a l d), .bool (validP a l d)]) ∧ Below w.heap.size w w' := by
  have HP := Lib.hid h
  have HW := Lib.hid hw
  clear h hw
  have HB1 : Hid (Below w.heap.size w (w.alloc (.cells #[.slice A a.length ca, .slice L l.length cl, .slice D d.length cd] 28))) := Lib.hid ((Below.refl _ _).alloc (Nat.le_refl _) _)
  have HK : Hid (BlkL (w.alloc (.cells #[.slice A a.length ca, .slice L l.length cl, .slice D d.length cd] 28)) w.heap.size [.slice A a.length ca, .slice L l.length cl, .slice D d.length cd]) := Lib.hid (blkL_at w #[.slice A a.length ca, .slice L l.length cl, .slice D d.length cd] _ rfl)
  go_enter Tryd.func12, Tryd.ntmps12
  go_wp2_with fail
  generalize w.alloc (.cells #[.slice A a.length ca, .slice L l.length cl, .slice D d.length cd] 28) = w1 at HB1 HK ⊢
  refine (s_l02Is A L D ca cl cd a l d _ _ (HP.out.below HB1.out) (blk3_of HK.out) hn).mono ?_
  rintro e w2 ⟨n, rfl, hw⟩
  have HB2 : Hid (Below w.heap.size w w2) := Lib.hid (by rw [hw]; exact below_draws HB1.out _)
  have HK2 : Hid (BlkL w2 w.heap.size [.slice A a.length ca, .slice L l.length cl, .slice D d.length cd]) := Lib.hid (by rw [hw]; exact HK.out)
  clear hw
  cases hv : validP a l d
  · have HR : Hid (profT a l d = ⟨#[]⟩) := Lib.hid (by unfold profT; rw [hv]; rfl)
    have HQ := Lib.hid hv
    go_wp2
    go_ret2
    exact ⟨by rw [HR.out, HQ.out]; rfl, HB2.out⟩
  · have HR : Hid (profT a l d = profS a l d) := Lib.hid (by unfold profT; rw [hv]; rfl)
    have HQ := Lib.hid hv
    go_wp2_with fail
    refine (s_l08Profile A L D ca cl cd a l d _ _ HK2.out (HP.out.below HB2.out) (validP_sized HQ.out) HW.out).mono ?_
    rintro e w3 ⟨rfl, hb⟩
    have HB3 : Hid (Below w.heap.size w w3) := Lib.hid (below_of HB2.out HB2.out.size hb)
    clear hb
    go_wp2
    go_ret2
    exact ⟨by rw [HR.out, HQ.out]; rfl, HB3.out⟩
end Go.Proofs.YtpjgmfkjpkeohaaDoor
