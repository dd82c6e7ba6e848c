/- A drive out of the parts of a text. No statement is proved here. -/
import Derived.Test.YtknabmknboffgaaGreatDoorDvM
import Derived.Test.YtknabmknboffgaaGreatDoorPrt
import Derived.Test.YtknabmknboffgaaGreatDoorStC
import Derived.Test.YtknabmknboffgaaGreatDoorInv4
import Derived.RegionTactic
import Derived.BigRegion
namespace Go.Proofs.YtknabmknboffgaaGreatDoor
open Go Go.RowKit
/-- numbers in a block of their own -/
def Nb (W : World) (lo g : Nat) (l : List Nat) : Prop := lo ≤ g ∧ g < W.heap.size ∧ ∀ k, k < l.length → W.cell? ⟨g, k, none⟩ = some (.float .f32 (l.getD k 0))
theorem Nb.below {W W' : World} {lo g : Nat} {l : List Nat} (h : Nb W lo g l) (hb : Below W.heap.size W W') : Nb W' lo g l :=
  ⟨h.1, Nat.lt_of_lt_of_le h.2.1 hb.size, fun k hk => by rw [hb.cell (p := ⟨g, k, none⟩) h.2.1]; exact h.2.2 k hk⟩
theorem Nb.turn {W W' : World} {lo g RB : Nat} {l : List Nat} (h : Nb W lo g l) (ht : Turn W W' (fun b => b = RB)) (hr : RB < lo) : Nb W' lo g l :=
  ⟨h.1, Nat.lt_of_lt_of_le h.2.1 ht.1, fun k hk => by rw [ht.2.1 ⟨g, k, none⟩ h.2.1 (by show ¬ g = RB; have := h.1; omega)]; exact h.2.2 k hk⟩
theorem OwnO.nb {w : World} {B0 b : Nat} {A : Option Addr} {xs : List Nat} (h : OwnO w B0 A b xs) (hpos : 1 ≤ xs.length) : A = some ⟨b, 0, none⟩ ∧ Nb w B0 b xs := by
  rcases h with h | ⟨h1, h2, h3⟩
  · rw [h] at hpos; exact absurd hpos (by simp)
  · refine ⟨h1, h2, ?_⟩
    have hf := h3.fl
    rcases hf with hf | ⟨b', o', e, hlt, hc⟩
    · rw [hf] at hpos; exact absurd hpos (by simp)
    · simp only [Option.some.injEq, Addr.mk.injEq] at e
      obtain ⟨rfl, rfl, -⟩ := e
      exact ⟨hlt, fun k hk => by have := hc k hk; rwa [Nat.zero_add] at this⟩
theorem i_numbersIn_nb (s : ByteArray) (n : Nat) (w : World) (hs : s.size ≤ 1048576) (hE : EV w) (hT : T64 w) (hM : ML w) (h1 : 1 ≤ n) (h : nmN s n = true) :
    Calls Tryz.prog 61 #[.string s, .int .i64 n] w fun e w' => ∃ c g, e = .returned (.slice (some ⟨g, 0, none⟩) n c) ∧ Nb w' w.heap.size g (nmL s) ∧ Below w.heap.size w w' := by
  obtain ⟨ho, hl⟩ := nmN_iff.1 h
  refine (i_numbersIn_yes s n w hs hE hT hM ho hl).mono ?_
  rintro e w' ⟨R1, c1, g1, rfl, h2, hb⟩
  obtain ⟨rfl, h3⟩ := h2.nb (by omega)
  exact ⟨c1, g1, rfl, h3, hb⟩
set_option maxHeartbeats 8000000 in
set_option maxRecDepth 100000 in
theorem i_driveIn_len (s : ByteArray) (pv : Value) (w : World) (hs : s.size ≤ 1048576) (hM : ML w) (hV : EMv pv w) (h : (cutS 59 s).length ≠ 3) :
    Calls Tryz.prog 28 #[.string s] w fun e w' => e = .panicked (chn pv) ∧ Below w.heap.size w w' := by
  obtain ⟨w0, hw0⟩ : ∃ z, z = w.alloc (.cells #[.float .f32 0, .float .f32 0, .float .f32 0, .float .f32 0, .float .f32 0, .float .f32 0, .float .f32 0, .float .f32 0, .int .i64 0, .float .f32 0, .float .f32 0, .float .f32 0] 26) := ⟨_, rfl⟩
  have b0 : Below w.heap.size w w0 := by rw [hw0]; exact (Below.refl _ _).alloc (Nat.le_refl _) _
  have HZ0 : Hid (w0.heap.size = w.heap.size + 1) := Lib.hid (by rw [hw0]; simp)
  have K0 : Hid (BlkL w0 w.heap.size [.float .f32 0, .float .f32 0, .float .f32 0, .float .f32 0, .float .f32 0, .float .f32 0, .float .f32 0, .float .f32 0, .int .i64 0, .float .f32 0, .float .f32 0, .float .f32 0]) := Lib.hid (by rw [hw0]; exact blkL_at w #[.float .f32 0, .float .f32 0, .float .f32 0, .float .f32 0, .float .f32 0, .float .f32 0, .float .f32 0, .float .f32 0, .int .i64 0, .float .f32 0, .float .f32 0, .float .f32 0] _ rfl)
  have B0 := Lib.hid b0
  have HCP := Lib.hid (i_partsIn_no 59 3 s pv w0 hs (hM.below b0) (hV.below b0) (by decide) (by decide) h)
  clear hs hM hV h b0
  go_enter Tryz.func28, Tryz.ntmps28
  go_upto_region 1 with fail
  rw [← hw0]
  clear hw0
  go_wp2_with fail
  refine HCP.out.mono ?_
  rintro e w1 ⟨rfl, b1⟩
  go_wp2
  exact ⟨rfl, rfl, below_of B0.out B0.out.size b1⟩
set_option maxHeartbeats 8000000 in
set_option maxRecDepth 100000 in
theorem i_driveIn_2ff (s : ByteArray) (pv : Value) (w : World) (hs : s.size ≤ 1048576) (hE : EV w) (hT : T64 w) (hX : T10 w) (hM : ML w) (hV : EMv pv w) (hl : (cutS 59 s).length = 3) (hA : nmN (pcs 59 s 0) 8 = false) (hB : nmN (pcs 59 s 2) 3 = false) :
    Calls Tryz.prog 28 #[.string s] w fun e w' => e = .panicked (chn pv) ∧ Below w.heap.size w w' := by
  obtain ⟨w0, hw0⟩ : ∃ z, z = w.alloc (.cells #[.float .f32 0, .float .f32 0, .float .f32 0, .float .f32 0, .float .f32 0, .float .f32 0, .float .f32 0, .float .f32 0, .int .i64 0, .float .f32 0, .float .f32 0, .float .f32 0] 26) := ⟨_, rfl⟩
  have b0 : Below w.heap.size w w0 := by rw [hw0]; exact (Below.refl _ _).alloc (Nat.le_refl _) _
  have HZ0 : Hid (w0.heap.size = w.heap.size + 1) := Lib.hid (by rw [hw0]; simp)
  have K0 : Hid (BlkL w0 w.heap.size [.float .f32 0, .float .f32 0, .float .f32 0, .float .f32 0, .float .f32 0, .float .f32 0, .float .f32 0, .float .f32 0, .int .i64 0, .float .f32 0, .float .f32 0, .float .f32 0]) := Lib.hid (by rw [hw0]; exact blkL_at w #[.float .f32 0, .float .f32 0, .float .f32 0, .float .f32 0, .float .f32 0, .float .f32 0, .float .f32 0, .float .f32 0, .int .i64 0, .float .f32 0, .float .f32 0, .float .f32 0] _ rfl)
  have B0 := Lib.hid b0
  obtain ⟨hl, hrest⟩ : (cutS 59 s).length = 3 ∧ True := ⟨hl, trivial⟩
  have HCP := Lib.hid (i_partsIn_yes 59 3 s w0 hs (hM.below b0) (by decide) (by decide) hl)
  have HPS : Hid ((cutS 59 s)[0]? = some (pcs 59 s 0) ∧ (cutS 59 s)[1]? = some (pcs 59 s 1) ∧ (cutS 59 s)[2]? = some (pcs 59 s 2)) := Lib.hid ⟨pcs_at hl (by decide), pcs_at hl (by decide), pcs_at hl (by decide)⟩
  have HCA : Hid (∀ W, Below w.heap.size w W → Calls Tryz.prog 61 #[.string (pcs 59 s 0), .int .i64 8] W fun e w' => e = .panicked (chn pv) ∧ Below W.heap.size W w') := Lib.hid (fun W hb => i_numbersIn_no (pcs 59 s 0) 8 pv W (Nat.le_trans (pcs_size _ _ _) hs) (hE.below hb) (hT.below hb) (hM.below hb) (hV.below hb) (nmN_no hA))
  have HCB : Hid (∀ W, Below w.heap.size w W → Calls Tryz.prog 61 #[.string (pcs 59 s 2), .int .i64 3] W fun e w' => e = .panicked (chn pv) ∧ Below W.heap.size W w') := Lib.hid (fun W hb => i_numbersIn_no (pcs 59 s 2) 3 pv W (Nat.le_trans (pcs_size _ _ _) hs) (hE.below hb) (hT.below hb) (hM.below hb) (hV.below hb) (nmN_no hB))
  clear hs hE hT hX hM hV hl hA hB b0 hrest
  generalize pcs 59 s 0 = a0 at *
  generalize pcs 59 s 1 = a1 at *
  generalize pcs 59 s 2 = a2 at *
  go_enter Tryz.func28, Tryz.ntmps28
  go_upto_region 1 with fail
  rw [← hw0]
  clear hw0
  go_wp2_with fail
  refine HCP.out.mono ?_
  rintro e w1 ⟨N, rfl, hc, hlt, b1⟩
  have HB1 := Lib.hid (below_of B0.out B0.out.size b1)
  have HS1 := Lib.hid b1.size
  have K1 := Lib.hid (K0.out.below b1)
  obtain ⟨q, hq⟩ : ∃ q, q = w0.heap.size := ⟨_, rfl⟩
  rw [← hq] at hc hlt ⊢
  have HQ := Lib.hid hq
  have HP1 : Hid (∀ W, Below w1.heap.size w1 W → W.cell? ⟨q, 0, none⟩ = some (.string a0) ∧ W.cell? ⟨q, 1, none⟩ = some (.string a1) ∧ W.cell? ⟨q, 2, none⟩ = some (.string a2)) := Lib.hid (fun W hb => ⟨(hb.cell (p := ⟨q, 0, none⟩) hlt).trans (hc 0 _ HPS.out.1), (hb.cell (p := ⟨q, 1, none⟩) hlt).trans (hc 1 _ HPS.out.2.1), (hb.cell (p := ⟨q, 2, none⟩) hlt).trans (hc 2 _ HPS.out.2.2)⟩)
  have HQL := Lib.hid hlt
  clear hc hlt b1 HCP HPS B0 K0 hq
  go_wp2_with fail
  refine wp_region_inv4 (fun iq wv v => match iq with
    | 0 => v = .slice (some ⟨q, 0, none⟩) 3 N
    | 1 => v = .pointer (some ⟨q, 0, none⟩)
    | 2 => v = .string a0
    | 3 => False
    | 4 => v = .slice (some ⟨q, 0, none⟩) 3 N
    | 5 => v = .pointer (some ⟨q, 2, none⟩)
    | 6 => v = .string a2
    | 7 => False
    | 8 => False
    | 9 => False
    | _ => False) (fun _ ww => Below w1.heap.size w1 ww) (fun w w' => Below w.heap.size w w') ?hmono (by kernel_rfl) (by kernel_rfl) ((Below.refl _ _).drew) ?hop ?hend
  case hmono =>
    intro i wa wb v hR hV
    rcases i with _ | _ | _ | _ | _ | _ | _ | _ | _ | _ | i
    · exact hV
    · exact hV
    · exact hV
    · exact hV
    · exact hV
    · exact hV
    · exact hV
    · exact hV
    · exact hV
    · exact hV
    · exact hV
  case hop =>
    intro q o hq listed act w3 hI hnot hcl hall
    have hB := hI.cls
    have hdf := hI.defers
    obtain ⟨m0, m1, m2⟩ := HP1.out _ hB
    rcases q with _ | _ | _ | _ | _ | _ | _ | _ | _ | _ | q
    · simp at hq; subst hq
      have g3 : act.tmps[3]?.getD undef = .slice (some ⟨q, 0, none⟩) 3 N := hI.kept 3 (by kernel_rfl)
      clear hI hall hnot hcl
      refine .inl ⟨wanted_none rfl, ?_⟩
      unfold Oper.wp
      go_simp
      all_goals first | exact ⟨_, rfl, Below.refl _ _, rfl, hB⟩ | exact ⟨Below.refl _ _, hB⟩ | exact Below.refl _ _
    · simp at hq; subst hq
      have g8 : act.tmps[8]?.getD undef = .slice (some ⟨q, 0, none⟩) 3 N := hI.has 0 8 rfl (hall ⟨0, .data⟩ (by simp) rfl)
      clear hI hall hnot hcl
      refine .inl ⟨wanted_none rfl, ?_⟩
      unfold Oper.wp
      go_simp
      all_goals first | exact ⟨_, rfl, Below.refl _ _, rfl, hB⟩ | exact ⟨Below.refl _ _, hB⟩ | exact Below.refl _ _
    · simp at hq; subst hq
      have g9 : act.tmps[9]?.getD undef = .pointer (some ⟨q, 0, none⟩) := hI.has 1 9 rfl (hall ⟨1, .data⟩ (by simp) rfl)
      clear hI hall hnot hcl
      refine .inl ⟨wanted_none rfl, ?_⟩
      unfold Oper.wp
      go_simp
      all_goals first | exact ⟨_, rfl, Below.refl _ _, rfl, hB⟩ | exact ⟨Below.refl _ _, hB⟩ | exact Below.refl _ _
    · simp at hq; subst hq
      have g10 : act.tmps[10]?.getD undef = .string a0 := hI.has 2 10 rfl (hall ⟨2, .data⟩ (by simp) rfl)
      clear hI hall hnot hcl
      refine .inl ⟨wanted_none rfl, ?_⟩
      unfold Oper.wp
      go_simp
      refine (HCA.out _ (below_of HB1.out HB1.out.size hB)).mono ?_
      rintro e w4 ⟨rfl, b4⟩
      have hpan : bodyPost Tryz.prog Tryz.f28 (fun e w' => e = .panicked (chn pv) ∧ Below w.heap.size w w') (.panic (chn pv)) act w4 := ⟨hdf, rfl, below_of HB1.out HB1.out.size (below_of hB hB.size b4)⟩
      exact hpan
    · simp at hq; subst hq
      have g3 : act.tmps[3]?.getD undef = .slice (some ⟨q, 0, none⟩) 3 N := hI.kept 3 (by kernel_rfl)
      clear hI hall hnot hcl
      refine .inl ⟨wanted_none rfl, ?_⟩
      unfold Oper.wp
      go_simp
      all_goals first | exact ⟨_, rfl, Below.refl _ _, rfl, hB⟩ | exact ⟨Below.refl _ _, hB⟩ | exact Below.refl _ _
    · simp at hq; subst hq
      have g12 : act.tmps[12]?.getD undef = .slice (some ⟨q, 0, none⟩) 3 N := hI.has 4 12 rfl (hall ⟨4, .data⟩ (by simp) rfl)
      clear hI hall hnot hcl
      refine .inl ⟨wanted_none rfl, ?_⟩
      unfold Oper.wp
      go_simp
      all_goals first | exact ⟨_, rfl, Below.refl _ _, rfl, hB⟩ | exact ⟨Below.refl _ _, hB⟩ | exact Below.refl _ _
    · simp at hq; subst hq
      have g13 : act.tmps[13]?.getD undef = .pointer (some ⟨q, 2, none⟩) := hI.has 5 13 rfl (hall ⟨5, .data⟩ (by simp) rfl)
      clear hI hall hnot hcl
      refine .inl ⟨wanted_none rfl, ?_⟩
      unfold Oper.wp
      go_simp
      all_goals first | exact ⟨_, rfl, Below.refl _ _, rfl, hB⟩ | exact ⟨Below.refl _ _, hB⟩ | exact Below.refl _ _
    · simp at hq; subst hq
      have g14 : act.tmps[14]?.getD undef = .string a2 := hI.has 6 14 rfl (hall ⟨6, .data⟩ (by simp) rfl)
      clear hI hall hnot hcl
      refine .inl ⟨wanted_none rfl, ?_⟩
      unfold Oper.wp
      go_simp
      refine (HCB.out _ (below_of HB1.out HB1.out.size hB)).mono ?_
      rintro e w4 ⟨rfl, b4⟩
      have hpan : bodyPost Tryz.prog Tryz.f28 (fun e w' => e = .panicked (chn pv) ∧ Below w.heap.size w w') (.panic (chn pv)) act w4 := ⟨hdf, rfl, below_of HB1.out HB1.out.size (below_of hB hB.size b4)⟩
      exact hpan
    · simp at hq; subst hq
      have G11 := hI.has 3 11 rfl (hall ⟨3, .data⟩ (by simp) rfl)
      clear hI hall hnot hcl
      refine .inl ⟨wanted_none rfl, ?_⟩
      unfold Oper.wp
      go_simp
      exact G11.elim
    · simp at hq; subst hq
      have G15 := hI.has 7 15 rfl (hall ⟨7, .data⟩ (by simp) rfl)
      clear hI hall hnot hcl
      refine .inl ⟨wanted_none rfl, ?_⟩
      unfold Oper.wp
      go_simp
      exact G15.elim
    · simp at hq
  case hend =>
    intro listed act w3 hI hall
    have hB := hI.cls
    have hdf := hI.defers
    obtain ⟨m0, m1, m2⟩ := HP1.out _ hB
    exact (hI.has 3 11 rfl (hall 3 (by decide))).elim
set_option maxHeartbeats 8000000 in
set_option maxRecDepth 100000 in
theorem i_driveIn_2ft (s : ByteArray) (pv : Value) (w : World) (hs : s.size ≤ 1048576) (hE : EV w) (hT : T64 w) (hX : T10 w) (hM : ML w) (hV : EMv pv w) (hl : (cutS 59 s).length = 3) (hA : nmN (pcs 59 s 0) 8 = false) (hB : nmN (pcs 59 s 2) 3 = true) :
    Calls Tryz.prog 28 #[.string s] w fun e w' => e = .panicked (chn pv) ∧ Below w.heap.size w w' := by
  obtain ⟨w0, hw0⟩ : ∃ z, z = w.alloc (.cells #[.float .f32 0, .float .f32 0, .float .f32 0, .float .f32 0, .float .f32 0, .float .f32 0, .float .f32 0, .float .f32 0, .int .i64 0, .float .f32 0, .float .f32 0, .float .f32 0] 26) := ⟨_, rfl⟩
  have b0 : Below w.heap.size w w0 := by rw [hw0]; exact (Below.refl _ _).alloc (Nat.le_refl _) _
  have HZ0 : Hid (w0.heap.size = w.heap.size + 1) := Lib.hid (by rw [hw0]; simp)
  have K0 : Hid (BlkL w0 w.heap.size [.float .f32 0, .float .f32 0, .float .f32 0, .float .f32 0, .float .f32 0, .float .f32 0, .float .f32 0, .float .f32 0, .int .i64 0, .float .f32 0, .float .f32 0, .float .f32 0]) := Lib.hid (by rw [hw0]; exact blkL_at w #[.float .f32 0, .float .f32 0, .float .f32 0, .float .f32 0, .float .f32 0, .float .f32 0, .float .f32 0, .float .f32 0, .int .i64 0, .float .f32 0, .float .f32 0, .float .f32 0] _ rfl)
  have B0 := Lib.hid b0
  obtain ⟨hl, hrest⟩ : (cutS 59 s).length = 3 ∧ True := ⟨hl, trivial⟩
  have HCP := Lib.hid (i_partsIn_yes 59 3 s w0 hs (hM.below b0) (by decide) (by decide) hl)
  have HPS : Hid ((cutS 59 s)[0]? = some (pcs 59 s 0) ∧ (cutS 59 s)[1]? = some (pcs 59 s 1) ∧ (cutS 59 s)[2]? = some (pcs 59 s 2)) := Lib.hid ⟨pcs_at hl (by decide), pcs_at hl (by decide), pcs_at hl (by decide)⟩
  have HCA : Hid (∀ W, Below w.heap.size w W → Calls Tryz.prog 61 #[.string (pcs 59 s 0), .int .i64 8] W fun e w' => e = .panicked (chn pv) ∧ Below W.heap.size W w') := Lib.hid (fun W hb => i_numbersIn_no (pcs 59 s 0) 8 pv W (Nat.le_trans (pcs_size _ _ _) hs) (hE.below hb) (hT.below hb) (hM.below hb) (hV.below hb) (nmN_no hA))
  have HCB : Hid (∀ W, Below w.heap.size w W → Calls Tryz.prog 61 #[.string (pcs 59 s 2), .int .i64 3] W fun e w' => ∃ c g, e = .returned (.slice (some ⟨g, 0, none⟩) 3 c) ∧ Nb w' W.heap.size g (nmL (pcs 59 s 2)) ∧ Below W.heap.size W w') := Lib.hid (fun W hb => i_numbersIn_nb (pcs 59 s 2) 3 W (Nat.le_trans (pcs_size _ _ _) hs) (hE.below hb) (hT.below hb) (hM.below hb) (by decide) hB)
  clear hs hE hT hX hM hV hl hA hB b0 hrest
  generalize pcs 59 s 0 = a0 at *
  generalize pcs 59 s 1 = a1 at *
  generalize pcs 59 s 2 = a2 at *
  go_enter Tryz.func28, Tryz.ntmps28
  go_upto_region 1 with fail
  rw [← hw0]
  clear hw0
  go_wp2_with fail
  refine HCP.out.mono ?_
  rintro e w1 ⟨N, rfl, hc, hlt, b1⟩
  have HB1 := Lib.hid (below_of B0.out B0.out.size b1)
  have HS1 := Lib.hid b1.size
  have K1 := Lib.hid (K0.out.below b1)
  obtain ⟨q, hq⟩ : ∃ q, q = w0.heap.size := ⟨_, rfl⟩
  rw [← hq] at hc hlt ⊢
  have HQ := Lib.hid hq
  have HP1 : Hid (∀ W, Below w1.heap.size w1 W → W.cell? ⟨q, 0, none⟩ = some (.string a0) ∧ W.cell? ⟨q, 1, none⟩ = some (.string a1) ∧ W.cell? ⟨q, 2, none⟩ = some (.string a2)) := Lib.hid (fun W hb => ⟨(hb.cell (p := ⟨q, 0, none⟩) hlt).trans (hc 0 _ HPS.out.1), (hb.cell (p := ⟨q, 1, none⟩) hlt).trans (hc 1 _ HPS.out.2.1), (hb.cell (p := ⟨q, 2, none⟩) hlt).trans (hc 2 _ HPS.out.2.2)⟩)
  have HQL := Lib.hid hlt
  clear hc hlt b1 HCP HPS B0 K0 hq
  go_wp2_with fail
  refine wp_region_inv4 (fun iq wv v => match iq with
    | 0 => v = .slice (some ⟨q, 0, none⟩) 3 N
    | 1 => v = .pointer (some ⟨q, 0, none⟩)
    | 2 => v = .string a0
    | 3 => False
    | 4 => v = .slice (some ⟨q, 0, none⟩) 3 N
    | 5 => v = .pointer (some ⟨q, 2, none⟩)
    | 6 => v = .string a2
    | 7 => ∃ c g, v = .slice (some ⟨g, 0, none⟩) 3 c ∧ Nb wv w0.heap.size g (nmL a2)
    | 8 => False
    | 9 => ∃ c g, v = .slice (some ⟨g, 0, none⟩) 3 c ∧ Nb wv w0.heap.size g (nmL a2)
    | _ => False) (fun _ ww => Below w1.heap.size w1 ww) (fun w w' => Below w.heap.size w w') ?hmono (by kernel_rfl) (by kernel_rfl) ((Below.refl _ _).drew) ?hop ?hend
  case hmono =>
    intro i wa wb v hR hV
    rcases i with _ | _ | _ | _ | _ | _ | _ | _ | _ | _ | i
    · exact hV
    · exact hV
    · exact hV
    · exact hV
    · exact hV
    · exact hV
    · exact hV
    · obtain ⟨c, g, rfl, ho⟩ := hV; exact ⟨c, g, rfl, ho.below hR⟩
    · exact hV
    · obtain ⟨c, g, rfl, ho⟩ := hV; exact ⟨c, g, rfl, ho.below hR⟩
    · exact hV
  case hop =>
    intro q o hq listed act w3 hI hnot hcl hall
    have hB := hI.cls
    have hdf := hI.defers
    obtain ⟨m0, m1, m2⟩ := HP1.out _ hB
    rcases q with _ | _ | _ | _ | _ | _ | _ | _ | _ | _ | q
    · simp at hq; subst hq
      have g3 : act.tmps[3]?.getD undef = .slice (some ⟨q, 0, none⟩) 3 N := hI.kept 3 (by kernel_rfl)
      clear hI hall hnot hcl
      refine .inl ⟨wanted_none rfl, ?_⟩
      unfold Oper.wp
      go_simp
      all_goals first | exact ⟨_, rfl, Below.refl _ _, rfl, hB⟩ | exact ⟨Below.refl _ _, hB⟩ | exact Below.refl _ _
    · simp at hq; subst hq
      have g8 : act.tmps[8]?.getD undef = .slice (some ⟨q, 0, none⟩) 3 N := hI.has 0 8 rfl (hall ⟨0, .data⟩ (by simp) rfl)
      clear hI hall hnot hcl
      refine .inl ⟨wanted_none rfl, ?_⟩
      unfold Oper.wp
      go_simp
      all_goals first | exact ⟨_, rfl, Below.refl _ _, rfl, hB⟩ | exact ⟨Below.refl _ _, hB⟩ | exact Below.refl _ _
    · simp at hq; subst hq
      have g9 : act.tmps[9]?.getD undef = .pointer (some ⟨q, 0, none⟩) := hI.has 1 9 rfl (hall ⟨1, .data⟩ (by simp) rfl)
      clear hI hall hnot hcl
      refine .inl ⟨wanted_none rfl, ?_⟩
      unfold Oper.wp
      go_simp
      all_goals first | exact ⟨_, rfl, Below.refl _ _, rfl, hB⟩ | exact ⟨Below.refl _ _, hB⟩ | exact Below.refl _ _
    · simp at hq; subst hq
      have g10 : act.tmps[10]?.getD undef = .string a0 := hI.has 2 10 rfl (hall ⟨2, .data⟩ (by simp) rfl)
      clear hI hall hnot hcl
      refine .inl ⟨wanted_none rfl, ?_⟩
      unfold Oper.wp
      go_simp
      refine (HCA.out _ (below_of HB1.out HB1.out.size hB)).mono ?_
      rintro e w4 ⟨rfl, b4⟩
      have hpan : bodyPost Tryz.prog Tryz.f28 (fun e w' => e = .panicked (chn pv) ∧ Below w.heap.size w w') (.panic (chn pv)) act w4 := ⟨hdf, rfl, below_of HB1.out HB1.out.size (below_of hB hB.size b4)⟩
      exact hpan
    · simp at hq; subst hq
      have g3 : act.tmps[3]?.getD undef = .slice (some ⟨q, 0, none⟩) 3 N := hI.kept 3 (by kernel_rfl)
      clear hI hall hnot hcl
      refine .inl ⟨wanted_none rfl, ?_⟩
      unfold Oper.wp
      go_simp
      all_goals first | exact ⟨_, rfl, Below.refl _ _, rfl, hB⟩ | exact ⟨Below.refl _ _, hB⟩ | exact Below.refl _ _
    · simp at hq; subst hq
      have g12 : act.tmps[12]?.getD undef = .slice (some ⟨q, 0, none⟩) 3 N := hI.has 4 12 rfl (hall ⟨4, .data⟩ (by simp) rfl)
      clear hI hall hnot hcl
      refine .inl ⟨wanted_none rfl, ?_⟩
      unfold Oper.wp
      go_simp
      all_goals first | exact ⟨_, rfl, Below.refl _ _, rfl, hB⟩ | exact ⟨Below.refl _ _, hB⟩ | exact Below.refl _ _
    · simp at hq; subst hq
      have g13 : act.tmps[13]?.getD undef = .pointer (some ⟨q, 2, none⟩) := hI.has 5 13 rfl (hall ⟨5, .data⟩ (by simp) rfl)
      clear hI hall hnot hcl
      refine .inl ⟨wanted_none rfl, ?_⟩
      unfold Oper.wp
      go_simp
      all_goals first | exact ⟨_, rfl, Below.refl _ _, rfl, hB⟩ | exact ⟨Below.refl _ _, hB⟩ | exact Below.refl _ _
    · simp at hq; subst hq
      have g14 : act.tmps[14]?.getD undef = .string a2 := hI.has 6 14 rfl (hall ⟨6, .data⟩ (by simp) rfl)
      clear hI hall hnot hcl
      refine .inl ⟨wanted_none rfl, ?_⟩
      unfold Oper.wp
      go_simp
      refine (HCB.out _ (below_of HB1.out HB1.out.size hB)).mono ?_
      rintro e w4 ⟨c, g, rfl, ho, b4⟩
      have ho : Nb w4 w0.heap.size g (nmL a2) := ⟨Nat.le_trans (Nat.le_trans HS1.out hB.size) ho.1, ho.2⟩
      first | exact ⟨_, rfl, b4, ⟨c, g, rfl, ho⟩, below_of hB hB.size b4⟩ | exact ⟨_, rfl, b4, ⟨_, _, rfl, ho⟩, below_of hB hB.size b4⟩
    · simp at hq; subst hq
      have G11 := hI.has 3 11 rfl (hall ⟨3, .data⟩ (by simp) rfl)
      clear hI hall hnot hcl
      refine .inl ⟨wanted_none rfl, ?_⟩
      unfold Oper.wp
      go_simp
      exact G11.elim
    · simp at hq; subst hq
      obtain ⟨c7, g7, g15, h7a⟩ := hI.has 7 15 rfl (hall ⟨7, .data⟩ (by simp) rfl)
      clear hI hall hnot hcl
      refine .inl ⟨wanted_none rfl, ?_⟩
      unfold Oper.wp
      go_simp
      first | exact ⟨_, rfl, Below.refl _ _, ⟨c7, g7, rfl, h7a⟩⟩ | exact ⟨_, rfl, Below.refl _ _, ⟨c7, g7, rfl, h7a⟩, hB⟩
    · simp at hq
  case hend =>
    intro listed act w3 hI hall
    have hB := hI.cls
    have hdf := hI.defers
    obtain ⟨m0, m1, m2⟩ := HP1.out _ hB
    exact (hI.has 3 11 rfl (hall 3 (by decide))).elim
set_option maxHeartbeats 8000000 in
set_option maxRecDepth 100000 in
theorem i_driveIn_2tf (s : ByteArray) (pv : Value) (w : World) (hs : s.size ≤ 1048576) (hE : EV w) (hT : T64 w) (hX : T10 w) (hM : ML w) (hV : EMv pv w) (hl : (cutS 59 s).length = 3) (hA : nmN (pcs 59 s 0) 8 = true) (hB : nmN (pcs 59 s 2) 3 = false) :
    Calls Tryz.prog 28 #[.string s] w fun e w' => e = .panicked (chn pv) ∧ Below w.heap.size w w' := by
  obtain ⟨w0, hw0⟩ : ∃ z, z = w.alloc (.cells #[.float .f32 0, .float .f32 0, .float .f32 0, .float .f32 0, .float .f32 0, .float .f32 0, .float .f32 0, .float .f32 0, .int .i64 0, .float .f32 0, .float .f32 0, .float .f32 0] 26) := ⟨_, rfl⟩
  have b0 : Below w.heap.size w w0 := by rw [hw0]; exact (Below.refl _ _).alloc (Nat.le_refl _) _
  have HZ0 : Hid (w0.heap.size = w.heap.size + 1) := Lib.hid (by rw [hw0]; simp)
  have K0 : Hid (BlkL w0 w.heap.size [.float .f32 0, .float .f32 0, .float .f32 0, .float .f32 0, .float .f32 0, .float .f32 0, .float .f32 0, .float .f32 0, .int .i64 0, .float .f32 0, .float .f32 0, .float .f32 0]) := Lib.hid (by rw [hw0]; exact blkL_at w #[.float .f32 0, .float .f32 0, .float .f32 0, .float .f32 0, .float .f32 0, .float .f32 0, .float .f32 0, .float .f32 0, .int .i64 0, .float .f32 0, .float .f32 0, .float .f32 0] _ rfl)
  have B0 := Lib.hid b0
  obtain ⟨hl, hrest⟩ : (cutS 59 s).length = 3 ∧ True := ⟨hl, trivial⟩
  have HCP := Lib.hid (i_partsIn_yes 59 3 s w0 hs (hM.below b0) (by decide) (by decide) hl)
  have HPS : Hid ((cutS 59 s)[0]? = some (pcs 59 s 0) ∧ (cutS 59 s)[1]? = some (pcs 59 s 1) ∧ (cutS 59 s)[2]? = some (pcs 59 s 2)) := Lib.hid ⟨pcs_at hl (by decide), pcs_at hl (by decide), pcs_at hl (by decide)⟩
  have HCA : Hid (∀ W, Below w.heap.size w W → Calls Tryz.prog 61 #[.string (pcs 59 s 0), .int .i64 8] W fun e w' => ∃ c g, e = .returned (.slice (some ⟨g, 0, none⟩) 8 c) ∧ Nb w' W.heap.size g (nmL (pcs 59 s 0)) ∧ Below W.heap.size W w') := Lib.hid (fun W hb => i_numbersIn_nb (pcs 59 s 0) 8 W (Nat.le_trans (pcs_size _ _ _) hs) (hE.below hb) (hT.below hb) (hM.below hb) (by decide) hA)
  have HCB : Hid (∀ W, Below w.heap.size w W → Calls Tryz.prog 61 #[.string (pcs 59 s 2), .int .i64 3] W fun e w' => e = .panicked (chn pv) ∧ Below W.heap.size W w') := Lib.hid (fun W hb => i_numbersIn_no (pcs 59 s 2) 3 pv W (Nat.le_trans (pcs_size _ _ _) hs) (hE.below hb) (hT.below hb) (hM.below hb) (hV.below hb) (nmN_no hB))
  clear hs hE hT hX hM hV hl hA hB b0 hrest
  generalize pcs 59 s 0 = a0 at *
  generalize pcs 59 s 1 = a1 at *
  generalize pcs 59 s 2 = a2 at *
  go_enter Tryz.func28, Tryz.ntmps28
  go_upto_region 1 with fail
  rw [← hw0]
  clear hw0
  go_wp2_with fail
  refine HCP.out.mono ?_
  rintro e w1 ⟨N, rfl, hc, hlt, b1⟩
  have HB1 := Lib.hid (below_of B0.out B0.out.size b1)
  have HS1 := Lib.hid b1.size
  have K1 := Lib.hid (K0.out.below b1)
  obtain ⟨q, hq⟩ : ∃ q, q = w0.heap.size := ⟨_, rfl⟩
  rw [← hq] at hc hlt ⊢
  have HQ := Lib.hid hq
  have HP1 : Hid (∀ W, Below w1.heap.size w1 W → W.cell? ⟨q, 0, none⟩ = some (.string a0) ∧ W.cell? ⟨q, 1, none⟩ = some (.string a1) ∧ W.cell? ⟨q, 2, none⟩ = some (.string a2)) := Lib.hid (fun W hb => ⟨(hb.cell (p := ⟨q, 0, none⟩) hlt).trans (hc 0 _ HPS.out.1), (hb.cell (p := ⟨q, 1, none⟩) hlt).trans (hc 1 _ HPS.out.2.1), (hb.cell (p := ⟨q, 2, none⟩) hlt).trans (hc 2 _ HPS.out.2.2)⟩)
  have HQL := Lib.hid hlt
  clear hc hlt b1 HCP HPS B0 K0 hq
  go_wp2_with fail
  refine wp_region_inv4 (fun iq wv v => match iq with
    | 0 => v = .slice (some ⟨q, 0, none⟩) 3 N
    | 1 => v = .pointer (some ⟨q, 0, none⟩)
    | 2 => v = .string a0
    | 3 => ∃ c g, v = .slice (some ⟨g, 0, none⟩) 8 c ∧ Nb wv w0.heap.size g (nmL a0)
    | 4 => v = .slice (some ⟨q, 0, none⟩) 3 N
    | 5 => v = .pointer (some ⟨q, 2, none⟩)
    | 6 => v = .string a2
    | 7 => False
    | 8 => ∃ c g, v = .slice (some ⟨g, 0, none⟩) 8 c ∧ Nb wv w0.heap.size g (nmL a0)
    | 9 => False
    | _ => False) (fun _ ww => Below w1.heap.size w1 ww) (fun w w' => Below w.heap.size w w') ?hmono (by kernel_rfl) (by kernel_rfl) ((Below.refl _ _).drew) ?hop ?hend
  case hmono =>
    intro i wa wb v hR hV
    rcases i with _ | _ | _ | _ | _ | _ | _ | _ | _ | _ | i
    · exact hV
    · exact hV
    · exact hV
    · obtain ⟨c, g, rfl, ho⟩ := hV; exact ⟨c, g, rfl, ho.below hR⟩
    · exact hV
    · exact hV
    · exact hV
    · exact hV
    · obtain ⟨c, g, rfl, ho⟩ := hV; exact ⟨c, g, rfl, ho.below hR⟩
    · exact hV
    · exact hV
  case hop =>
    intro q o hq listed act w3 hI hnot hcl hall
    have hB := hI.cls
    have hdf := hI.defers
    obtain ⟨m0, m1, m2⟩ := HP1.out _ hB
    rcases q with _ | _ | _ | _ | _ | _ | _ | _ | _ | _ | q
    · simp at hq; subst hq
      have g3 : act.tmps[3]?.getD undef = .slice (some ⟨q, 0, none⟩) 3 N := hI.kept 3 (by kernel_rfl)
      clear hI hall hnot hcl
      refine .inl ⟨wanted_none rfl, ?_⟩
      unfold Oper.wp
      go_simp
      all_goals first | exact ⟨_, rfl, Below.refl _ _, rfl, hB⟩ | exact ⟨Below.refl _ _, hB⟩ | exact Below.refl _ _
    · simp at hq; subst hq
      have g8 : act.tmps[8]?.getD undef = .slice (some ⟨q, 0, none⟩) 3 N := hI.has 0 8 rfl (hall ⟨0, .data⟩ (by simp) rfl)
      clear hI hall hnot hcl
      refine .inl ⟨wanted_none rfl, ?_⟩
      unfold Oper.wp
      go_simp
      all_goals first | exact ⟨_, rfl, Below.refl _ _, rfl, hB⟩ | exact ⟨Below.refl _ _, hB⟩ | exact Below.refl _ _
    · simp at hq; subst hq
      have g9 : act.tmps[9]?.getD undef = .pointer (some ⟨q, 0, none⟩) := hI.has 1 9 rfl (hall ⟨1, .data⟩ (by simp) rfl)
      clear hI hall hnot hcl
      refine .inl ⟨wanted_none rfl, ?_⟩
      unfold Oper.wp
      go_simp
      all_goals first | exact ⟨_, rfl, Below.refl _ _, rfl, hB⟩ | exact ⟨Below.refl _ _, hB⟩ | exact Below.refl _ _
    · simp at hq; subst hq
      have g10 : act.tmps[10]?.getD undef = .string a0 := hI.has 2 10 rfl (hall ⟨2, .data⟩ (by simp) rfl)
      clear hI hall hnot hcl
      refine .inl ⟨wanted_none rfl, ?_⟩
      unfold Oper.wp
      go_simp
      refine (HCA.out _ (below_of HB1.out HB1.out.size hB)).mono ?_
      rintro e w4 ⟨c, g, rfl, ho, b4⟩
      have ho : Nb w4 w0.heap.size g (nmL a0) := ⟨Nat.le_trans (Nat.le_trans HS1.out hB.size) ho.1, ho.2⟩
      first | exact ⟨_, rfl, b4, ⟨c, g, rfl, ho⟩, below_of hB hB.size b4⟩ | exact ⟨_, rfl, b4, ⟨_, _, rfl, ho⟩, below_of hB hB.size b4⟩
    · simp at hq; subst hq
      have g3 : act.tmps[3]?.getD undef = .slice (some ⟨q, 0, none⟩) 3 N := hI.kept 3 (by kernel_rfl)
      clear hI hall hnot hcl
      refine .inl ⟨wanted_none rfl, ?_⟩
      unfold Oper.wp
      go_simp
      all_goals first | exact ⟨_, rfl, Below.refl _ _, rfl, hB⟩ | exact ⟨Below.refl _ _, hB⟩ | exact Below.refl _ _
    · simp at hq; subst hq
      have g12 : act.tmps[12]?.getD undef = .slice (some ⟨q, 0, none⟩) 3 N := hI.has 4 12 rfl (hall ⟨4, .data⟩ (by simp) rfl)
      clear hI hall hnot hcl
      refine .inl ⟨wanted_none rfl, ?_⟩
      unfold Oper.wp
      go_simp
      all_goals first | exact ⟨_, rfl, Below.refl _ _, rfl, hB⟩ | exact ⟨Below.refl _ _, hB⟩ | exact Below.refl _ _
    · simp at hq; subst hq
      have g13 : act.tmps[13]?.getD undef = .pointer (some ⟨q, 2, none⟩) := hI.has 5 13 rfl (hall ⟨5, .data⟩ (by simp) rfl)
      clear hI hall hnot hcl
      refine .inl ⟨wanted_none rfl, ?_⟩
      unfold Oper.wp
      go_simp
      all_goals first | exact ⟨_, rfl, Below.refl _ _, rfl, hB⟩ | exact ⟨Below.refl _ _, hB⟩ | exact Below.refl _ _
    · simp at hq; subst hq
      have g14 : act.tmps[14]?.getD undef = .string a2 := hI.has 6 14 rfl (hall ⟨6, .data⟩ (by simp) rfl)
      clear hI hall hnot hcl
      refine .inl ⟨wanted_none rfl, ?_⟩
      unfold Oper.wp
      go_simp
      refine (HCB.out _ (below_of HB1.out HB1.out.size hB)).mono ?_
      rintro e w4 ⟨rfl, b4⟩
      have hpan : bodyPost Tryz.prog Tryz.f28 (fun e w' => e = .panicked (chn pv) ∧ Below w.heap.size w w') (.panic (chn pv)) act w4 := ⟨hdf, rfl, below_of HB1.out HB1.out.size (below_of hB hB.size b4)⟩
      exact hpan
    · simp at hq; subst hq
      obtain ⟨c3, g3, g11, h3a⟩ := hI.has 3 11 rfl (hall ⟨3, .data⟩ (by simp) rfl)
      clear hI hall hnot hcl
      refine .inl ⟨wanted_none rfl, ?_⟩
      unfold Oper.wp
      go_simp
      first | exact ⟨_, rfl, Below.refl _ _, ⟨c3, g3, rfl, h3a⟩⟩ | exact ⟨_, rfl, Below.refl _ _, ⟨c3, g3, rfl, h3a⟩, hB⟩
    · simp at hq; subst hq
      have G15 := hI.has 7 15 rfl (hall ⟨7, .data⟩ (by simp) rfl)
      clear hI hall hnot hcl
      refine .inl ⟨wanted_none rfl, ?_⟩
      unfold Oper.wp
      go_simp
      exact G15.elim
    · simp at hq
  case hend =>
    intro listed act w3 hI hall
    have hB := hI.cls
    have hdf := hI.defers
    obtain ⟨m0, m1, m2⟩ := HP1.out _ hB
    exact (hI.has 7 15 rfl (hall 7 (by decide))).elim
set_option maxHeartbeats 8000000 in
set_option maxRecDepth 100000 in
theorem i_driveIn_dec (s : ByteArray) (pv : Value) (w : World) (hs : s.size ≤ 1048576) (hE : EV w) (hT : T64 w) (hX : T10 w) (hM : ML w) (hV : EMv pv w) (hl : (cutS 59 s).length = 3) (hA : nmN (pcs 59 s 0) 8 = true) (hB : nmN (pcs 59 s 2) 3 = true) (hD : vlO (pcs 59 s 1) = false) :
    Calls Tryz.prog 28 #[.string s] w fun e w' => e = .panicked (chn pv) ∧ Below w.heap.size w w' := by
  obtain ⟨w0, hw0⟩ : ∃ z, z = w.alloc (.cells #[.float .f32 0, .float .f32 0, .float .f32 0, .float .f32 0, .float .f32 0, .float .f32 0, .float .f32 0, .float .f32 0, .int .i64 0, .float .f32 0, .float .f32 0, .float .f32 0] 26) := ⟨_, rfl⟩
  have b0 : Below w.heap.size w w0 := by rw [hw0]; exact (Below.refl _ _).alloc (Nat.le_refl _) _
  have HZ0 : Hid (w0.heap.size = w.heap.size + 1) := Lib.hid (by rw [hw0]; simp)
  have K0 : Hid (BlkL w0 w.heap.size [.float .f32 0, .float .f32 0, .float .f32 0, .float .f32 0, .float .f32 0, .float .f32 0, .float .f32 0, .float .f32 0, .int .i64 0, .float .f32 0, .float .f32 0, .float .f32 0]) := Lib.hid (by rw [hw0]; exact blkL_at w #[.float .f32 0, .float .f32 0, .float .f32 0, .float .f32 0, .float .f32 0, .float .f32 0, .float .f32 0, .float .f32 0, .int .i64 0, .float .f32 0, .float .f32 0, .float .f32 0] _ rfl)
  have B0 := Lib.hid b0
  obtain ⟨hl, hrest⟩ : (cutS 59 s).length = 3 ∧ True := ⟨hl, trivial⟩
  have HCP := Lib.hid (i_partsIn_yes 59 3 s w0 hs (hM.below b0) (by decide) (by decide) hl)
  have HPS : Hid ((cutS 59 s)[0]? = some (pcs 59 s 0) ∧ (cutS 59 s)[1]? = some (pcs 59 s 1) ∧ (cutS 59 s)[2]? = some (pcs 59 s 2)) := Lib.hid ⟨pcs_at hl (by decide), pcs_at hl (by decide), pcs_at hl (by decide)⟩
  have HCA : Hid (∀ W, Below w.heap.size w W → Calls Tryz.prog 61 #[.string (pcs 59 s 0), .int .i64 8] W fun e w' => ∃ c g, e = .returned (.slice (some ⟨g, 0, none⟩) 8 c) ∧ Nb w' W.heap.size g (nmL (pcs 59 s 0)) ∧ Below W.heap.size W w') := Lib.hid (fun W hb => i_numbersIn_nb (pcs 59 s 0) 8 W (Nat.le_trans (pcs_size _ _ _) hs) (hE.below hb) (hT.below hb) (hM.below hb) (by decide) hA)
  have HCB : Hid (∀ W, Below w.heap.size w W → Calls Tryz.prog 61 #[.string (pcs 59 s 2), .int .i64 3] W fun e w' => ∃ c g, e = .returned (.slice (some ⟨g, 0, none⟩) 3 c) ∧ Nb w' W.heap.size g (nmL (pcs 59 s 2)) ∧ Below W.heap.size W w') := Lib.hid (fun W hb => i_numbersIn_nb (pcs 59 s 2) 3 W (Nat.le_trans (pcs_size _ _ _) hs) (hE.below hb) (hT.below hb) (hM.below hb) (by decide) hB)
  have HCD : Hid (∀ W, Below w.heap.size w W → Calls Tryz.prog 63 #[.string (pcs 59 s 1)] W fun e w' => e = .returned (.tuple #[.int .i64 (vlR (pcs 59 s 1)), .bool false]) ∧ Below W.heap.size W w') := Lib.hid (fun W hb => by rw [← hD]; exact i_ReadDecimal _ W (Nat.le_trans (pcs_size _ _ _) hs) (hX.below hb) (hE.below hb))
  have HLN : Hid ((nmL (pcs 59 s 0)).length = 8 ∧ (nmL (pcs 59 s 2)).length = 3) := Lib.hid ⟨(nmN_iff.1 hA).2, (nmN_iff.1 hB).2⟩
  have HV := Lib.hid hV
  clear hs hE hT hX hM hV hl hA hB hD b0 hrest
  generalize pcs 59 s 0 = a0 at *
  generalize pcs 59 s 1 = a1 at *
  generalize pcs 59 s 2 = a2 at *
  generalize vlR a1 = z at *
  obtain ⟨x0, hx0⟩ : ∃ x, x = (nmL a0).getD 0 0 := ⟨_, rfl⟩
  obtain ⟨x1, hx1⟩ : ∃ x, x = (nmL a0).getD 1 0 := ⟨_, rfl⟩
  obtain ⟨x2, hx2⟩ : ∃ x, x = (nmL a0).getD 2 0 := ⟨_, rfl⟩
  obtain ⟨x3, hx3⟩ : ∃ x, x = (nmL a0).getD 3 0 := ⟨_, rfl⟩
  obtain ⟨x4, hx4⟩ : ∃ x, x = (nmL a0).getD 4 0 := ⟨_, rfl⟩
  obtain ⟨x5, hx5⟩ : ∃ x, x = (nmL a0).getD 5 0 := ⟨_, rfl⟩
  obtain ⟨x6, hx6⟩ : ∃ x, x = (nmL a0).getD 6 0 := ⟨_, rfl⟩
  obtain ⟨x7, hx7⟩ : ∃ x, x = (nmL a0).getD 7 0 := ⟨_, rfl⟩
  obtain ⟨y0, hy0⟩ : ∃ x, x = (nmL a2).getD 0 0 := ⟨_, rfl⟩
  obtain ⟨y1, hy1⟩ : ∃ x, x = (nmL a2).getD 1 0 := ⟨_, rfl⟩
  obtain ⟨y2, hy2⟩ : ∃ x, x = (nmL a2).getD 2 0 := ⟨_, rfl⟩
  have HXS : Hid (x0 = (nmL a0).getD 0 0 ∧ x1 = (nmL a0).getD 1 0 ∧ x2 = (nmL a0).getD 2 0 ∧ x3 = (nmL a0).getD 3 0 ∧ x4 = (nmL a0).getD 4 0 ∧ x5 = (nmL a0).getD 5 0 ∧ x6 = (nmL a0).getD 6 0 ∧ x7 = (nmL a0).getD 7 0 ∧ y0 = (nmL a2).getD 0 0 ∧ y1 = (nmL a2).getD 1 0 ∧ y2 = (nmL a2).getD 2 0) := Lib.hid ⟨hx0, hx1, hx2, hx3, hx4, hx5, hx6, hx7, hy0, hy1, hy2⟩
  clear hx0 hx1 hx2 hx3 hx4 hx5 hx6 hx7 hy0 hy1 hy2
  go_enter Tryz.func28, Tryz.ntmps28
  go_upto_region 1 with fail
  rw [← hw0]
  clear hw0
  go_wp2_with fail
  refine HCP.out.mono ?_
  rintro e w1 ⟨N, rfl, hc, hlt, b1⟩
  have HB1 := Lib.hid (below_of B0.out B0.out.size b1)
  have HS1 := Lib.hid b1.size
  have K1 := Lib.hid (K0.out.below b1)
  obtain ⟨q, hq⟩ : ∃ q, q = w0.heap.size := ⟨_, rfl⟩
  rw [← hq] at hc hlt ⊢
  have HQ := Lib.hid hq
  have HP1 : Hid (∀ W, Below w1.heap.size w1 W → W.cell? ⟨q, 0, none⟩ = some (.string a0) ∧ W.cell? ⟨q, 1, none⟩ = some (.string a1) ∧ W.cell? ⟨q, 2, none⟩ = some (.string a2)) := Lib.hid (fun W hb => ⟨(hb.cell (p := ⟨q, 0, none⟩) hlt).trans (hc 0 _ HPS.out.1), (hb.cell (p := ⟨q, 1, none⟩) hlt).trans (hc 1 _ HPS.out.2.1), (hb.cell (p := ⟨q, 2, none⟩) hlt).trans (hc 2 _ HPS.out.2.2)⟩)
  have HQL := Lib.hid hlt
  clear hc hlt b1 HCP HPS B0 K0 hq
  go_wp2_with fail
  refine wp_region_inv4 (fun iq wv v => match iq with
    | 0 => v = .slice (some ⟨q, 0, none⟩) 3 N
    | 1 => v = .pointer (some ⟨q, 0, none⟩)
    | 2 => v = .string a0
    | 3 => ∃ c g, v = .slice (some ⟨g, 0, none⟩) 8 c ∧ Nb wv w0.heap.size g (nmL a0)
    | 4 => v = .slice (some ⟨q, 0, none⟩) 3 N
    | 5 => v = .pointer (some ⟨q, 2, none⟩)
    | 6 => v = .string a2
    | 7 => ∃ c g, v = .slice (some ⟨g, 0, none⟩) 3 c ∧ Nb wv w0.heap.size g (nmL a2)
    | 8 => ∃ c g, v = .slice (some ⟨g, 0, none⟩) 8 c ∧ Nb wv w0.heap.size g (nmL a0)
    | 9 => ∃ c g, v = .slice (some ⟨g, 0, none⟩) 3 c ∧ Nb wv w0.heap.size g (nmL a2)
    | _ => False) (fun _ ww => Below w1.heap.size w1 ww) (fun w w' => Below w.heap.size w w') ?hmono (by kernel_rfl) (by kernel_rfl) ((Below.refl _ _).drew) ?hop ?hend
  case hmono =>
    intro i wa wb v hR hV
    rcases i with _ | _ | _ | _ | _ | _ | _ | _ | _ | _ | i
    · exact hV
    · exact hV
    · exact hV
    · obtain ⟨c, g, rfl, ho⟩ := hV; exact ⟨c, g, rfl, ho.below hR⟩
    · exact hV
    · exact hV
    · exact hV
    · obtain ⟨c, g, rfl, ho⟩ := hV; exact ⟨c, g, rfl, ho.below hR⟩
    · obtain ⟨c, g, rfl, ho⟩ := hV; exact ⟨c, g, rfl, ho.below hR⟩
    · obtain ⟨c, g, rfl, ho⟩ := hV; exact ⟨c, g, rfl, ho.below hR⟩
    · exact hV
  case hop =>
    intro q o hq listed act w3 hI hnot hcl hall
    have hB := hI.cls
    have hdf := hI.defers
    obtain ⟨m0, m1, m2⟩ := HP1.out _ hB
    rcases q with _ | _ | _ | _ | _ | _ | _ | _ | _ | _ | q
    · simp at hq; subst hq
      have g3 : act.tmps[3]?.getD undef = .slice (some ⟨q, 0, none⟩) 3 N := hI.kept 3 (by kernel_rfl)
      clear hI hall hnot hcl
      refine .inl ⟨wanted_none rfl, ?_⟩
      unfold Oper.wp
      go_simp
      all_goals first | exact ⟨_, rfl, Below.refl _ _, rfl, hB⟩ | exact ⟨Below.refl _ _, hB⟩ | exact Below.refl _ _
    · simp at hq; subst hq
      have g8 : act.tmps[8]?.getD undef = .slice (some ⟨q, 0, none⟩) 3 N := hI.has 0 8 rfl (hall ⟨0, .data⟩ (by simp) rfl)
      clear hI hall hnot hcl
      refine .inl ⟨wanted_none rfl, ?_⟩
      unfold Oper.wp
      go_simp
      all_goals first | exact ⟨_, rfl, Below.refl _ _, rfl, hB⟩ | exact ⟨Below.refl _ _, hB⟩ | exact Below.refl _ _
    · simp at hq; subst hq
      have g9 : act.tmps[9]?.getD undef = .pointer (some ⟨q, 0, none⟩) := hI.has 1 9 rfl (hall ⟨1, .data⟩ (by simp) rfl)
      clear hI hall hnot hcl
      refine .inl ⟨wanted_none rfl, ?_⟩
      unfold Oper.wp
      go_simp
      all_goals first | exact ⟨_, rfl, Below.refl _ _, rfl, hB⟩ | exact ⟨Below.refl _ _, hB⟩ | exact Below.refl _ _
    · simp at hq; subst hq
      have g10 : act.tmps[10]?.getD undef = .string a0 := hI.has 2 10 rfl (hall ⟨2, .data⟩ (by simp) rfl)
      clear hI hall hnot hcl
      refine .inl ⟨wanted_none rfl, ?_⟩
      unfold Oper.wp
      go_simp
      refine (HCA.out _ (below_of HB1.out HB1.out.size hB)).mono ?_
      rintro e w4 ⟨c, g, rfl, ho, b4⟩
      have ho : Nb w4 w0.heap.size g (nmL a0) := ⟨Nat.le_trans (Nat.le_trans HS1.out hB.size) ho.1, ho.2⟩
      first | exact ⟨_, rfl, b4, ⟨c, g, rfl, ho⟩, below_of hB hB.size b4⟩ | exact ⟨_, rfl, b4, ⟨_, _, rfl, ho⟩, below_of hB hB.size b4⟩
    · simp at hq; subst hq
      have g3 : act.tmps[3]?.getD undef = .slice (some ⟨q, 0, none⟩) 3 N := hI.kept 3 (by kernel_rfl)
      clear hI hall hnot hcl
      refine .inl ⟨wanted_none rfl, ?_⟩
      unfold Oper.wp
      go_simp
      all_goals first | exact ⟨_, rfl, Below.refl _ _, rfl, hB⟩ | exact ⟨Below.refl _ _, hB⟩ | exact Below.refl _ _
    · simp at hq; subst hq
      have g12 : act.tmps[12]?.getD undef = .slice (some ⟨q, 0, none⟩) 3 N := hI.has 4 12 rfl (hall ⟨4, .data⟩ (by simp) rfl)
      clear hI hall hnot hcl
      refine .inl ⟨wanted_none rfl, ?_⟩
      unfold Oper.wp
      go_simp
      all_goals first | exact ⟨_, rfl, Below.refl _ _, rfl, hB⟩ | exact ⟨Below.refl _ _, hB⟩ | exact Below.refl _ _
    · simp at hq; subst hq
      have g13 : act.tmps[13]?.getD undef = .pointer (some ⟨q, 2, none⟩) := hI.has 5 13 rfl (hall ⟨5, .data⟩ (by simp) rfl)
      clear hI hall hnot hcl
      refine .inl ⟨wanted_none rfl, ?_⟩
      unfold Oper.wp
      go_simp
      all_goals first | exact ⟨_, rfl, Below.refl _ _, rfl, hB⟩ | exact ⟨Below.refl _ _, hB⟩ | exact Below.refl _ _
    · simp at hq; subst hq
      have g14 : act.tmps[14]?.getD undef = .string a2 := hI.has 6 14 rfl (hall ⟨6, .data⟩ (by simp) rfl)
      clear hI hall hnot hcl
      refine .inl ⟨wanted_none rfl, ?_⟩
      unfold Oper.wp
      go_simp
      refine (HCB.out _ (below_of HB1.out HB1.out.size hB)).mono ?_
      rintro e w4 ⟨c, g, rfl, ho, b4⟩
      have ho : Nb w4 w0.heap.size g (nmL a2) := ⟨Nat.le_trans (Nat.le_trans HS1.out hB.size) ho.1, ho.2⟩
      first | exact ⟨_, rfl, b4, ⟨c, g, rfl, ho⟩, below_of hB hB.size b4⟩ | exact ⟨_, rfl, b4, ⟨_, _, rfl, ho⟩, below_of hB hB.size b4⟩
    · simp at hq; subst hq
      obtain ⟨c3, g3, g11, h3a⟩ := hI.has 3 11 rfl (hall ⟨3, .data⟩ (by simp) rfl)
      clear hI hall hnot hcl
      refine .inl ⟨wanted_none rfl, ?_⟩
      unfold Oper.wp
      go_simp
      first | exact ⟨_, rfl, Below.refl _ _, ⟨c3, g3, rfl, h3a⟩⟩ | exact ⟨_, rfl, Below.refl _ _, ⟨c3, g3, rfl, h3a⟩, hB⟩
    · simp at hq; subst hq
      obtain ⟨c7, g7, g15, h7a⟩ := hI.has 7 15 rfl (hall ⟨7, .data⟩ (by simp) rfl)
      clear hI hall hnot hcl
      refine .inl ⟨wanted_none rfl, ?_⟩
      unfold Oper.wp
      go_simp
      first | exact ⟨_, rfl, Below.refl _ _, ⟨c7, g7, rfl, h7a⟩⟩ | exact ⟨_, rfl, Below.refl _ _, ⟨c7, g7, rfl, h7a⟩, hB⟩
    · simp at hq
  case hend =>
    intro listed act w3 hI hall
    have hB := hI.cls
    have hdf := hI.defers
    obtain ⟨m0, m1, m2⟩ := HP1.out _ hB
    obtain ⟨c4, g4, g4s, ho4⟩ := hI.has 8 4 rfl (hall 8 (by decide))
    obtain ⟨c5, g5, g5s, ho5⟩ := hI.has 9 5 rfl (hall 9 (by decide))
    have g0 := hI.kept 0 (by kernel_rfl)
    conv at g0 => rhs; whnf
    have g1 : act.tmps[1]?.getD undef = undef := hI.kept 1 (by kernel_rfl)
    have g2 := hI.kept 2 (by kernel_rfl)
    conv at g2 => rhs; whnf
    have g3 := hI.kept 3 (by kernel_rfl)
    conv at g3 => rhs; whnf
    have g6 := hI.kept 6 (by kernel_rfl)
    conv at g6 => rhs; whnf
    have g7 := hI.kept 7 (by kernel_rfl)
    conv at g7 => rhs; whnf
    have g16 : act.tmps[16]?.getD undef = undef := hI.kept 16 (by kernel_rfl)
    have g17 : act.tmps[17]?.getD undef = undef := hI.kept 17 (by kernel_rfl)
    have g18 : act.tmps[18]?.getD undef = undef := hI.kept 18 (by kernel_rfl)
    have g19 : act.tmps[19]?.getD undef = undef := hI.kept 19 (by kernel_rfl)
    have g20 : act.tmps[20]?.getD undef = undef := hI.kept 20 (by kernel_rfl)
    have g21 : act.tmps[21]?.getD undef = undef := hI.kept 21 (by kernel_rfl)
    have g22 : act.tmps[22]?.getD undef = undef := hI.kept 22 (by kernel_rfl)
    have g23 : act.tmps[23]?.getD undef = undef := hI.kept 23 (by kernel_rfl)
    have g24 : act.tmps[24]?.getD undef = undef := hI.kept 24 (by kernel_rfl)
    have g25 : act.tmps[25]?.getD undef = undef := hI.kept 25 (by kernel_rfl)
    have g26 : act.tmps[26]?.getD undef = undef := hI.kept 26 (by kernel_rfl)
    have g27 : act.tmps[27]?.getD undef = undef := hI.kept 27 (by kernel_rfl)
    have g28 : act.tmps[28]?.getD undef = undef := hI.kept 28 (by kernel_rfl)
    have g29 : act.tmps[29]?.getD undef = undef := hI.kept 29 (by kernel_rfl)
    have g30 : act.tmps[30]?.getD undef = undef := hI.kept 30 (by kernel_rfl)
    have g31 : act.tmps[31]?.getD undef = undef := hI.kept 31 (by kernel_rfl)
    have g32 : act.tmps[32]?.getD undef = undef := hI.kept 32 (by kernel_rfl)
    have g33 : act.tmps[33]?.getD undef = undef := hI.kept 33 (by kernel_rfl)
    have g34 : act.tmps[34]?.getD undef = undef := hI.kept 34 (by kernel_rfl)
    have g35 : act.tmps[35]?.getD undef = undef := hI.kept 35 (by kernel_rfl)
    have g36 : act.tmps[36]?.getD undef = undef := hI.kept 36 (by kernel_rfl)
    have g37 : act.tmps[37]?.getD undef = undef := hI.kept 37 (by kernel_rfl)
    have g38 : act.tmps[38]?.getD undef = undef := hI.kept 38 (by kernel_rfl)
    have g39 : act.tmps[39]?.getD undef = undef := hI.kept 39 (by kernel_rfl)
    have g40 : act.tmps[40]?.getD undef = undef := hI.kept 40 (by kernel_rfl)
    have g41 : act.tmps[41]?.getD undef = undef := hI.kept 41 (by kernel_rfl)
    have g42 : act.tmps[42]?.getD undef = undef := hI.kept 42 (by kernel_rfl)
    have g43 : act.tmps[43]?.getD undef = undef := hI.kept 43 (by kernel_rfl)
    have g44 : act.tmps[44]?.getD undef = undef := hI.kept 44 (by kernel_rfl)
    have g45 : act.tmps[45]?.getD undef = undef := hI.kept 45 (by kernel_rfl)
    have g46 : act.tmps[46]?.getD undef = undef := hI.kept 46 (by kernel_rfl)
    have g47 : act.tmps[47]?.getD undef = undef := hI.kept 47 (by kernel_rfl)
    have g48 : act.tmps[48]?.getD undef = undef := hI.kept 48 (by kernel_rfl)
    have g49 : act.tmps[49]?.getD undef = undef := hI.kept 49 (by kernel_rfl)
    have g50 : act.tmps[50]?.getD undef = undef := hI.kept 50 (by kernel_rfl)
    have g51 : act.tmps[51]?.getD undef = undef := hI.kept 51 (by kernel_rfl)
    have g52 : act.tmps[52]?.getD undef = undef := hI.kept 52 (by kernel_rfl)
    have g53 : act.tmps[53]?.getD undef = undef := hI.kept 53 (by kernel_rfl)
    have g54 : act.tmps[54]?.getD undef = undef := hI.kept 54 (by kernel_rfl)
    have g55 : act.tmps[55]?.getD undef = undef := hI.kept 55 (by kernel_rfl)
    have g56 : act.tmps[56]?.getD undef = undef := hI.kept 56 (by kernel_rfl)
    have g57 : act.tmps[57]?.getD undef = undef := hI.kept 57 (by kernel_rfl)
    have hsz : act.tmps.size = 58 := hI.size.trans (by kernel_rfl)
    have hd := hI.defers
    clear hI hall
    obtain ⟨tt, dd⟩ := act
    simp only at g0 g1 g2 g3 g4s g5s g6 g7 g16 g17 g18 g19 g20 g21 g22 g23 g24 g25 g26 g27 g28 g29 g30 g31 g32 g33 g34 g35 g36 g37 g38 g39 g40 g41 g42 g43 g44 g45 g46 g47 g48 g49 g50 g51 g52 g53 g54 g55 g56 g57 hsz hd
    subst hd
    have hl : tt = #[tt[0]?.getD undef, tt[1]?.getD undef, tt[2]?.getD undef, tt[3]?.getD undef, tt[4]?.getD undef, tt[5]?.getD undef, tt[6]?.getD undef, tt[7]?.getD undef, tt[8]?.getD undef, tt[9]?.getD undef, tt[10]?.getD undef, tt[11]?.getD undef, tt[12]?.getD undef, tt[13]?.getD undef, tt[14]?.getD undef, tt[15]?.getD undef, tt[16]?.getD undef, tt[17]?.getD undef, tt[18]?.getD undef, tt[19]?.getD undef, tt[20]?.getD undef, tt[21]?.getD undef, tt[22]?.getD undef, tt[23]?.getD undef, tt[24]?.getD undef, tt[25]?.getD undef, tt[26]?.getD undef, tt[27]?.getD undef, tt[28]?.getD undef, tt[29]?.getD undef, tt[30]?.getD undef, tt[31]?.getD undef, tt[32]?.getD undef, tt[33]?.getD undef, tt[34]?.getD undef, tt[35]?.getD undef, tt[36]?.getD undef, tt[37]?.getD undef, tt[38]?.getD undef, tt[39]?.getD undef, tt[40]?.getD undef, tt[41]?.getD undef, tt[42]?.getD undef, tt[43]?.getD undef, tt[44]?.getD undef, tt[45]?.getD undef, tt[46]?.getD undef, tt[47]?.getD undef, tt[48]?.getD undef, tt[49]?.getD undef, tt[50]?.getD undef, tt[51]?.getD undef, tt[52]?.getD undef, tt[53]?.getD undef, tt[54]?.getD undef, tt[55]?.getD undef, tt[56]?.getD undef, tt[57]?.getD undef] := (arr_lit hsz).trans rfl
    rw [g0, g1, g2, g3, g4s, g5s, g6, g7, g16, g17, g18, g19, g20, g21, g22, g23, g24, g25, g26, g27, g28, g29, g30, g31, g32, g33, g34, g35, g36, g37, g38, g39, g40, g41, g42, g43, g44, g45, g46, g47, g48, g49, g50, g51, g52, g53, g54, g55, g56, g57] at hl
    clear g0 g1 g2 g3 g4s g5s g6 g7 g16 g17 g18 g19 g20 g21 g22 g23 g24 g25 g26 g27 g28 g29 g30 g31 g32 g33 g34 g35 g36 g37 g38 g39 g40 g41 g42 g43 g44 g45 g46 g47 g48 g49 g50 g51 g52 g53 g54 g55 g56 g57 hsz
    generalize tt[8]?.getD undef = y8 at hl
    generalize tt[9]?.getD undef = y9 at hl
    generalize tt[10]?.getD undef = y10 at hl
    generalize tt[11]?.getD undef = y11 at hl
    generalize tt[12]?.getD undef = y12 at hl
    generalize tt[13]?.getD undef = y13 at hl
    generalize tt[14]?.getD undef = y14 at hl
    generalize tt[15]?.getD undef = y15 at hl
    subst hl
    have HB3 : Hid (Below w.heap.size w w3) := Lib.hid (below_of HB1.out HB1.out.size hB)
    have K3 : Hid (BlkL w3 w.heap.size [.float .f32 0, .float .f32 0, .float .f32 0, .float .f32 0, .float .f32 0, .float .f32 0, .float .f32 0, .float .f32 0, .int .i64 0, .float .f32 0, .float .f32 0, .float .f32 0]) := Lib.hid (K1.out.below hB)
    have HPC : Hid (∀ W, Turn w3 W (fun b => b = w.heap.size) → W.cell? ⟨g4, 0, none⟩ = some (.float .f32 x0) ∧ W.cell? ⟨g4, 1, none⟩ = some (.float .f32 x1) ∧ W.cell? ⟨g4, 2, none⟩ = some (.float .f32 x2) ∧ W.cell? ⟨g4, 3, none⟩ = some (.float .f32 x3) ∧ W.cell? ⟨g4, 4, none⟩ = some (.float .f32 x4) ∧ W.cell? ⟨g4, 5, none⟩ = some (.float .f32 x5) ∧ W.cell? ⟨g4, 6, none⟩ = some (.float .f32 x6) ∧ W.cell? ⟨g4, 7, none⟩ = some (.float .f32 x7) ∧ W.cell? ⟨g5, 0, none⟩ = some (.float .f32 y0) ∧ W.cell? ⟨g5, 1, none⟩ = some (.float .f32 y1) ∧ W.cell? ⟨g5, 2, none⟩ = some (.float .f32 y2) ∧ W.cell? ⟨q, 1, none⟩ = some (.string a1)) := Lib.hid (fun W ht => by
      have h8 := ho4.turn ht (by have := HZ0.out; omega)
      have h3 := ho5.turn ht (by have := HZ0.out; omega)
      refine ⟨by rw [HXS.out.1]; exact h8.2.2 0 (by rw [HLN.out.1]; decide), by rw [HXS.out.2.1]; exact h8.2.2 1 (by rw [HLN.out.1]; decide), by rw [HXS.out.2.2.1]; exact h8.2.2 2 (by rw [HLN.out.1]; decide), by rw [HXS.out.2.2.2.1]; exact h8.2.2 3 (by rw [HLN.out.1]; decide), by rw [HXS.out.2.2.2.2.1]; exact h8.2.2 4 (by rw [HLN.out.1]; decide), by rw [HXS.out.2.2.2.2.2.1]; exact h8.2.2 5 (by rw [HLN.out.1]; decide), by rw [HXS.out.2.2.2.2.2.2.1]; exact h8.2.2 6 (by rw [HLN.out.1]; decide), by rw [HXS.out.2.2.2.2.2.2.2.1]; exact h8.2.2 7 (by rw [HLN.out.1]; decide), by rw [HXS.out.2.2.2.2.2.2.2.2.1]; exact h3.2.2 0 (by rw [HLN.out.2]; decide), by rw [HXS.out.2.2.2.2.2.2.2.2.2.1]; exact h3.2.2 1 (by rw [HLN.out.2]; decide), by rw [HXS.out.2.2.2.2.2.2.2.2.2.2]; exact h3.2.2 2 (by rw [HLN.out.2]; decide), ?_⟩
      rw [ht.2.1 ⟨q, 1, none⟩ (Nat.lt_of_lt_of_le HQL.out hB.size) (by show ¬ q = w.heap.size; have := HZ0.out; have := HQ.out; omega)]
      exact m1)
    clear ho4 ho5 hB m0 m1 m2 HP1 HLN HXS HCA HCB HQL HB1 HS1 K1
    generalize w3 = w2 at *
    go_wp2_with fail
    have hFin := fun (wa wb : World) (hb : Below wa.heap.size wa wb) (h : BlkL wa w.heap.size [.float .f32 x0, .float .f32 x1, .float .f32 x2, .float .f32 x3, .float .f32 x4, .float .f32 x5, .float .f32 x6, .float .f32 x7, .int .i64 z, .float .f32 y0, .float .f32 y1, .float .f32 y2]) => h.below hb
    refine wp_region_inv4 (fun iq wv v => match iq with
      | 0 => v = .slice (some ⟨g4, 0, none⟩) 8 c4
      | 1 => v = .pointer (some ⟨g4, 0, none⟩)
      | 2 => v = .float .f32 x0
      | 3 => v = .slice (some ⟨g4, 0, none⟩) 8 c4
      | 4 => v = .pointer (some ⟨g4, 1, none⟩)
      | 5 => v = .float .f32 x1
      | 6 => v = .slice (some ⟨g4, 0, none⟩) 8 c4
      | 7 => v = .pointer (some ⟨g4, 2, none⟩)
      | 8 => v = .float .f32 x2
      | 9 => v = .slice (some ⟨g4, 0, none⟩) 8 c4
      | 10 => v = .pointer (some ⟨g4, 3, none⟩)
      | 11 => v = .float .f32 x3
      | 12 => v = .slice (some ⟨g4, 0, none⟩) 8 c4
      | 13 => v = .pointer (some ⟨g4, 4, none⟩)
      | 14 => v = .float .f32 x4
      | 15 => v = .slice (some ⟨g4, 0, none⟩) 8 c4
      | 16 => v = .pointer (some ⟨g4, 5, none⟩)
      | 17 => v = .float .f32 x5
      | 18 => v = .slice (some ⟨g4, 0, none⟩) 8 c4
      | 19 => v = .pointer (some ⟨g4, 6, none⟩)
      | 20 => v = .float .f32 x6
      | 21 => v = .slice (some ⟨g4, 0, none⟩) 8 c4
      | 22 => v = .pointer (some ⟨g4, 7, none⟩)
      | 23 => v = .float .f32 x7
      | 24 => v = .agg #[.float .f32 x0, .float .f32 x1, .float .f32 x2, .float .f32 x3, .float .f32 x4, .float .f32 x5, .float .f32 x6, .float .f32 x7]
      | 25 => v = .slice (some ⟨q, 0, none⟩) 3 N
      | 26 => v = .pointer (some ⟨q, 1, none⟩)
      | 27 => v = .string a1
      | 28 => v = .tuple #[.int .i64 z, .bool false]
      | 29 => v = .int .i64 z
      | 30 => v = .bool false
      | 31 => False
      | 32 => v = .slice (some ⟨g5, 0, none⟩) 3 c5
      | 33 => v = .pointer (some ⟨g5, 0, none⟩)
      | 34 => v = .float .f32 y0
      | 35 => v = .slice (some ⟨g5, 0, none⟩) 3 c5
      | 36 => v = .pointer (some ⟨g5, 1, none⟩)
      | 37 => v = .float .f32 y1
      | 38 => v = .slice (some ⟨g5, 0, none⟩) 3 c5
      | 39 => v = .pointer (some ⟨g5, 2, none⟩)
      | 40 => v = .float .f32 y2
      | 41 => False
      | 42 => True
      | _ => False) (fun listed ww => StC w2 w.heap.size 12 42 (fun W => BlkL W w.heap.size [.float .f32 x0, .float .f32 x1, .float .f32 x2, .float .f32 x3, .float .f32 x4, .float .f32 x5, .float .f32 x6, .float .f32 x7, .int .i64 z, .float .f32 y0, .float .f32 y1, .float .f32 y2]) listed ww) (fun wa wb => Turn wa wb (fun b => b = w.heap.size)) ?hmono (by kernel_rfl) (by kernel_rfl) (StC.start K3.out rfl) ?hop ?hend
    case hmono =>
      intro i wa wb v hR hV
      rcases i with _ | _ | _ | _ | _ | _ | _ | _ | _ | _ | _ | _ | _ | _ | _ | _ | _ | _ | _ | _ | _ | _ | _ | _ | _ | _ | _ | _ | _ | _ | _ | _ | _ | _ | _ | _ | _ | _ | _ | _ | _ | _ | _ | i
      · exact hV
      · exact hV
      · exact hV
      · exact hV
      · exact hV
      · exact hV
      · exact hV
      · exact hV
      · exact hV
      · exact hV
      · exact hV
      · exact hV
      · exact hV
      · exact hV
      · exact hV
      · exact hV
      · exact hV
      · exact hV
      · exact hV
      · exact hV
      · exact hV
      · exact hV
      · exact hV
      · exact hV
      · exact hV
      · exact hV
      · exact hV
      · exact hV
      · exact hV
      · exact hV
      · exact hV
      · exact hV
      · exact hV
      · exact hV
      · exact hV
      · exact hV
      · exact hV
      · exact hV
      · exact hV
      · exact hV
      · exact hV
      · exact hV
      · exact hV
      · exact hV
    case hop =>
      intro q o hq listed act w3 hI hnot hcl hall
      have hC := hI.cls
      have hdf := hI.defers
      have hlen : listed.size = 43 := hI.len
      have hbw := hC.1.2.2.2 w HB3.out (fun b hb => by have hb : b = w.heap.size := hb; omega)
      obtain ⟨m0, m1, m2, m3, m4, m5, m6, m7, n0, n1, n2, qq⟩ := HPC.out _ hC.1
      rcases q with _ | _ | _ | _ | _ | _ | _ | _ | _ | _ | _ | _ | _ | _ | _ | _ | _ | _ | _ | _ | _ | _ | _ | _ | _ | _ | _ | _ | _ | _ | _ | _ | _ | _ | _ | _ | _ | _ | _ | _ | _ | _ | _ | q
      · simp at hq; subst hq
        have g4 : act.tmps[4]?.getD undef = .slice (some ⟨g4, 0, none⟩) 8 c4 := hI.kept 4 (by kernel_rfl)
        clear hI hall hnot hcl
        refine .inl ⟨wanted_none rfl, ?_⟩
        unfold Oper.wp
        go_simp
        all_goals exact ⟨_, rfl, Turn.refl _ _, rfl, StC.step (k := 0) hC (Below.refl _ _) hFin (by decide) (by rw [hlen]; decide)⟩
      · simp at hq; subst hq
        have g16 : act.tmps[16]?.getD undef = .slice (some ⟨g4, 0, none⟩) 8 c4 := hI.has 0 16 rfl (hall ⟨0, .data⟩ (by simp) rfl)
        clear hI hall hnot hcl
        refine .inl ⟨wanted_none rfl, ?_⟩
        unfold Oper.wp
        go_simp
        all_goals exact ⟨_, rfl, Turn.refl _ _, rfl, StC.step (k := 1) hC (Below.refl _ _) hFin (by decide) (by rw [hlen]; decide)⟩
      · simp at hq; subst hq
        have g17 : act.tmps[17]?.getD undef = .pointer (some ⟨g4, 0, none⟩) := hI.has 1 17 rfl (hall ⟨1, .data⟩ (by simp) rfl)
        clear hI hall hnot hcl
        refine .inl ⟨wanted_none rfl, ?_⟩
        unfold Oper.wp
        go_simp
        all_goals exact ⟨_, rfl, Turn.refl _ _, rfl, StC.step (k := 2) hC (Below.refl _ _) hFin (by decide) (by rw [hlen]; decide)⟩
      · simp at hq; subst hq
        have g4 : act.tmps[4]?.getD undef = .slice (some ⟨g4, 0, none⟩) 8 c4 := hI.kept 4 (by kernel_rfl)
        clear hI hall hnot hcl
        refine .inl ⟨wanted_none rfl, ?_⟩
        unfold Oper.wp
        go_simp
        all_goals exact ⟨_, rfl, Turn.refl _ _, rfl, StC.step (k := 3) hC (Below.refl _ _) hFin (by decide) (by rw [hlen]; decide)⟩
      · simp at hq; subst hq
        have g19 : act.tmps[19]?.getD undef = .slice (some ⟨g4, 0, none⟩) 8 c4 := hI.has 3 19 rfl (hall ⟨3, .data⟩ (by simp) rfl)
        clear hI hall hnot hcl
        refine .inl ⟨wanted_none rfl, ?_⟩
        unfold Oper.wp
        go_simp
        all_goals exact ⟨_, rfl, Turn.refl _ _, rfl, StC.step (k := 4) hC (Below.refl _ _) hFin (by decide) (by rw [hlen]; decide)⟩
      · simp at hq; subst hq
        have g20 : act.tmps[20]?.getD undef = .pointer (some ⟨g4, 1, none⟩) := hI.has 4 20 rfl (hall ⟨4, .data⟩ (by simp) rfl)
        clear hI hall hnot hcl
        refine .inl ⟨wanted_none rfl, ?_⟩
        unfold Oper.wp
        go_simp
        all_goals exact ⟨_, rfl, Turn.refl _ _, rfl, StC.step (k := 5) hC (Below.refl _ _) hFin (by decide) (by rw [hlen]; decide)⟩
      · simp at hq; subst hq
        have g4 : act.tmps[4]?.getD undef = .slice (some ⟨g4, 0, none⟩) 8 c4 := hI.kept 4 (by kernel_rfl)
        clear hI hall hnot hcl
        refine .inl ⟨wanted_none rfl, ?_⟩
        unfold Oper.wp
        go_simp
        all_goals exact ⟨_, rfl, Turn.refl _ _, rfl, StC.step (k := 6) hC (Below.refl _ _) hFin (by decide) (by rw [hlen]; decide)⟩
      · simp at hq; subst hq
        have g22 : act.tmps[22]?.getD undef = .slice (some ⟨g4, 0, none⟩) 8 c4 := hI.has 6 22 rfl (hall ⟨6, .data⟩ (by simp) rfl)
        clear hI hall hnot hcl
        refine .inl ⟨wanted_none rfl, ?_⟩
        unfold Oper.wp
        go_simp
        all_goals exact ⟨_, rfl, Turn.refl _ _, rfl, StC.step (k := 7) hC (Below.refl _ _) hFin (by decide) (by rw [hlen]; decide)⟩
      · simp at hq; subst hq
        have g23 : act.tmps[23]?.getD undef = .pointer (some ⟨g4, 2, none⟩) := hI.has 7 23 rfl (hall ⟨7, .data⟩ (by simp) rfl)
        clear hI hall hnot hcl
        refine .inl ⟨wanted_none rfl, ?_⟩
        unfold Oper.wp
        go_simp
        all_goals exact ⟨_, rfl, Turn.refl _ _, rfl, StC.step (k := 8) hC (Below.refl _ _) hFin (by decide) (by rw [hlen]; decide)⟩
      · simp at hq; subst hq
        have g4 : act.tmps[4]?.getD undef = .slice (some ⟨g4, 0, none⟩) 8 c4 := hI.kept 4 (by kernel_rfl)
        clear hI hall hnot hcl
        refine .inl ⟨wanted_none rfl, ?_⟩
        unfold Oper.wp
        go_simp
        all_goals exact ⟨_, rfl, Turn.refl _ _, rfl, StC.step (k := 9) hC (Below.refl _ _) hFin (by decide) (by rw [hlen]; decide)⟩
      · simp at hq; subst hq
        have g25 : act.tmps[25]?.getD undef = .slice (some ⟨g4, 0, none⟩) 8 c4 := hI.has 9 25 rfl (hall ⟨9, .data⟩ (by simp) rfl)
        clear hI hall hnot hcl
        refine .inl ⟨wanted_none rfl, ?_⟩
        unfold Oper.wp
        go_simp
        all_goals exact ⟨_, rfl, Turn.refl _ _, rfl, StC.step (k := 10) hC (Below.refl _ _) hFin (by decide) (by rw [hlen]; decide)⟩
      · simp at hq; subst hq
        have g26 : act.tmps[26]?.getD undef = .pointer (some ⟨g4, 3, none⟩) := hI.has 10 26 rfl (hall ⟨10, .data⟩ (by simp) rfl)
        clear hI hall hnot hcl
        refine .inl ⟨wanted_none rfl, ?_⟩
        unfold Oper.wp
        go_simp
        all_goals exact ⟨_, rfl, Turn.refl _ _, rfl, StC.step (k := 11) hC (Below.refl _ _) hFin (by decide) (by rw [hlen]; decide)⟩
      · simp at hq; subst hq
        have g4 : act.tmps[4]?.getD undef = .slice (some ⟨g4, 0, none⟩) 8 c4 := hI.kept 4 (by kernel_rfl)
        clear hI hall hnot hcl
        refine .inl ⟨wanted_none rfl, ?_⟩
        unfold Oper.wp
        go_simp
        all_goals exact ⟨_, rfl, Turn.refl _ _, rfl, StC.step (k := 12) hC (Below.refl _ _) hFin (by decide) (by rw [hlen]; decide)⟩
      · simp at hq; subst hq
        have g28 : act.tmps[28]?.getD undef = .slice (some ⟨g4, 0, none⟩) 8 c4 := hI.has 12 28 rfl (hall ⟨12, .data⟩ (by simp) rfl)
        clear hI hall hnot hcl
        refine .inl ⟨wanted_none rfl, ?_⟩
        unfold Oper.wp
        go_simp
        all_goals exact ⟨_, rfl, Turn.refl _ _, rfl, StC.step (k := 13) hC (Below.refl _ _) hFin (by decide) (by rw [hlen]; decide)⟩
      · simp at hq; subst hq
        have g29 : act.tmps[29]?.getD undef = .pointer (some ⟨g4, 4, none⟩) := hI.has 13 29 rfl (hall ⟨13, .data⟩ (by simp) rfl)
        clear hI hall hnot hcl
        refine .inl ⟨wanted_none rfl, ?_⟩
        unfold Oper.wp
        go_simp
        all_goals exact ⟨_, rfl, Turn.refl _ _, rfl, StC.step (k := 14) hC (Below.refl _ _) hFin (by decide) (by rw [hlen]; decide)⟩
      · simp at hq; subst hq
        have g4 : act.tmps[4]?.getD undef = .slice (some ⟨g4, 0, none⟩) 8 c4 := hI.kept 4 (by kernel_rfl)
        clear hI hall hnot hcl
        refine .inl ⟨wanted_none rfl, ?_⟩
        unfold Oper.wp
        go_simp
        all_goals exact ⟨_, rfl, Turn.refl _ _, rfl, StC.step (k := 15) hC (Below.refl _ _) hFin (by decide) (by rw [hlen]; decide)⟩
      · simp at hq; subst hq
        have g31 : act.tmps[31]?.getD undef = .slice (some ⟨g4, 0, none⟩) 8 c4 := hI.has 15 31 rfl (hall ⟨15, .data⟩ (by simp) rfl)
        clear hI hall hnot hcl
        refine .inl ⟨wanted_none rfl, ?_⟩
        unfold Oper.wp
        go_simp
        all_goals exact ⟨_, rfl, Turn.refl _ _, rfl, StC.step (k := 16) hC (Below.refl _ _) hFin (by decide) (by rw [hlen]; decide)⟩
      · simp at hq; subst hq
        have g32 : act.tmps[32]?.getD undef = .pointer (some ⟨g4, 5, none⟩) := hI.has 16 32 rfl (hall ⟨16, .data⟩ (by simp) rfl)
        clear hI hall hnot hcl
        refine .inl ⟨wanted_none rfl, ?_⟩
        unfold Oper.wp
        go_simp
        all_goals exact ⟨_, rfl, Turn.refl _ _, rfl, StC.step (k := 17) hC (Below.refl _ _) hFin (by decide) (by rw [hlen]; decide)⟩
      · simp at hq; subst hq
        have g4 : act.tmps[4]?.getD undef = .slice (some ⟨g4, 0, none⟩) 8 c4 := hI.kept 4 (by kernel_rfl)
        clear hI hall hnot hcl
        refine .inl ⟨wanted_none rfl, ?_⟩
        unfold Oper.wp
        go_simp
        all_goals exact ⟨_, rfl, Turn.refl _ _, rfl, StC.step (k := 18) hC (Below.refl _ _) hFin (by decide) (by rw [hlen]; decide)⟩
      · simp at hq; subst hq
        have g34 : act.tmps[34]?.getD undef = .slice (some ⟨g4, 0, none⟩) 8 c4 := hI.has 18 34 rfl (hall ⟨18, .data⟩ (by simp) rfl)
        clear hI hall hnot hcl
        refine .inl ⟨wanted_none rfl, ?_⟩
        unfold Oper.wp
        go_simp
        all_goals exact ⟨_, rfl, Turn.refl _ _, rfl, StC.step (k := 19) hC (Below.refl _ _) hFin (by decide) (by rw [hlen]; decide)⟩
      · simp at hq; subst hq
        have g35 : act.tmps[35]?.getD undef = .pointer (some ⟨g4, 6, none⟩) := hI.has 19 35 rfl (hall ⟨19, .data⟩ (by simp) rfl)
        clear hI hall hnot hcl
        refine .inl ⟨wanted_none rfl, ?_⟩
        unfold Oper.wp
        go_simp
        all_goals exact ⟨_, rfl, Turn.refl _ _, rfl, StC.step (k := 20) hC (Below.refl _ _) hFin (by decide) (by rw [hlen]; decide)⟩
      · simp at hq; subst hq
        have g4 : act.tmps[4]?.getD undef = .slice (some ⟨g4, 0, none⟩) 8 c4 := hI.kept 4 (by kernel_rfl)
        clear hI hall hnot hcl
        refine .inl ⟨wanted_none rfl, ?_⟩
        unfold Oper.wp
        go_simp
        all_goals exact ⟨_, rfl, Turn.refl _ _, rfl, StC.step (k := 21) hC (Below.refl _ _) hFin (by decide) (by rw [hlen]; decide)⟩
      · simp at hq; subst hq
        have g37 : act.tmps[37]?.getD undef = .slice (some ⟨g4, 0, none⟩) 8 c4 := hI.has 21 37 rfl (hall ⟨21, .data⟩ (by simp) rfl)
        clear hI hall hnot hcl
        refine .inl ⟨wanted_none rfl, ?_⟩
        unfold Oper.wp
        go_simp
        all_goals exact ⟨_, rfl, Turn.refl _ _, rfl, StC.step (k := 22) hC (Below.refl _ _) hFin (by decide) (by rw [hlen]; decide)⟩
      · simp at hq; subst hq
        have g38 : act.tmps[38]?.getD undef = .pointer (some ⟨g4, 7, none⟩) := hI.has 22 38 rfl (hall ⟨22, .data⟩ (by simp) rfl)
        clear hI hall hnot hcl
        refine .inl ⟨wanted_none rfl, ?_⟩
        unfold Oper.wp
        go_simp
        all_goals exact ⟨_, rfl, Turn.refl _ _, rfl, StC.step (k := 23) hC (Below.refl _ _) hFin (by decide) (by rw [hlen]; decide)⟩
      · simp at hq; subst hq
        have g18 : act.tmps[18]?.getD undef = .float .f32 x0 := hI.has 2 18 rfl (hall ⟨2, .data⟩ (by simp) rfl)
        have g21 : act.tmps[21]?.getD undef = .float .f32 x1 := hI.has 5 21 rfl (hall ⟨5, .data⟩ (by simp) rfl)
        have g24 : act.tmps[24]?.getD undef = .float .f32 x2 := hI.has 8 24 rfl (hall ⟨8, .data⟩ (by simp) rfl)
        have g27 : act.tmps[27]?.getD undef = .float .f32 x3 := hI.has 11 27 rfl (hall ⟨11, .data⟩ (by simp) rfl)
        have g30 : act.tmps[30]?.getD undef = .float .f32 x4 := hI.has 14 30 rfl (hall ⟨14, .data⟩ (by simp) rfl)
        have g33 : act.tmps[33]?.getD undef = .float .f32 x5 := hI.has 17 33 rfl (hall ⟨17, .data⟩ (by simp) rfl)
        have g36 : act.tmps[36]?.getD undef = .float .f32 x6 := hI.has 20 36 rfl (hall ⟨20, .data⟩ (by simp) rfl)
        have g39 : act.tmps[39]?.getD undef = .float .f32 x7 := hI.has 23 39 rfl (hall ⟨23, .data⟩ (by simp) rfl)
        clear hI hall hnot hcl
        refine .inl ⟨wanted_none rfl, ?_⟩
        unfold Oper.wp
        go_simp
        all_goals exact ⟨_, rfl, Turn.refl _ _, rfl, StC.step (k := 24) hC (Below.refl _ _) hFin (by decide) (by rw [hlen]; decide)⟩
      · simp at hq; subst hq
        have g3 : act.tmps[3]?.getD undef = .slice (some ⟨q, 0, none⟩) 3 N := hI.kept 3 (by kernel_rfl)
        clear hI hall hnot hcl
        refine .inl ⟨wanted_none rfl, ?_⟩
        unfold Oper.wp
        go_simp
        all_goals exact ⟨_, rfl, Turn.refl _ _, rfl, StC.step (k := 25) hC (Below.refl _ _) hFin (by decide) (by rw [hlen]; decide)⟩
      · simp at hq; subst hq
        have g41 : act.tmps[41]?.getD undef = .slice (some ⟨q, 0, none⟩) 3 N := hI.has 25 41 rfl (hall ⟨25, .data⟩ (by simp) rfl)
        clear hI hall hnot hcl
        refine .inl ⟨wanted_none rfl, ?_⟩
        unfold Oper.wp
        go_simp
        all_goals exact ⟨_, rfl, Turn.refl _ _, rfl, StC.step (k := 26) hC (Below.refl _ _) hFin (by decide) (by rw [hlen]; decide)⟩
      · simp at hq; subst hq
        have g42 : act.tmps[42]?.getD undef = .pointer (some ⟨q, 1, none⟩) := hI.has 26 42 rfl (hall ⟨26, .data⟩ (by simp) rfl)
        clear hI hall hnot hcl
        refine .inl ⟨wanted_none rfl, ?_⟩
        unfold Oper.wp
        go_simp
        all_goals exact ⟨_, rfl, Turn.refl _ _, rfl, StC.step (k := 27) hC (Below.refl _ _) hFin (by decide) (by rw [hlen]; decide)⟩
      · simp at hq; subst hq
        have g43 : act.tmps[43]?.getD undef = .string a1 := hI.has 27 43 rfl (hall ⟨27, .data⟩ (by simp) rfl)
        clear hI hall hnot hcl
        refine .inl ⟨wanted_none rfl, ?_⟩
        unfold Oper.wp
        go_simp
        refine (HCD.out _ hbw).mono ?_
        rintro e w4 ⟨rfl, b4⟩
        exact ⟨_, rfl, Turn.of_below b4 _, rfl, StC.step (k := 28) hC b4 hFin (by decide) (by rw [hlen]; decide)⟩
      · simp at hq; subst hq
        have g44 : act.tmps[44]?.getD undef = .tuple #[.int .i64 z, .bool false] := hI.has 28 44 rfl (hall ⟨28, .data⟩ (by simp) rfl)
        clear hI hall hnot hcl
        refine .inl ⟨wanted_none rfl, ?_⟩
        unfold Oper.wp
        go_simp
        all_goals exact ⟨_, rfl, Turn.refl _ _, rfl, StC.step (k := 29) hC (Below.refl _ _) hFin (by decide) (by rw [hlen]; decide)⟩
      · simp at hq; subst hq
        have g44 : act.tmps[44]?.getD undef = .tuple #[.int .i64 z, .bool false] := hI.has 28 44 rfl (hall ⟨28, .data⟩ (by simp) rfl)
        clear hI hall hnot hcl
        refine .inl ⟨wanted_none rfl, ?_⟩
        unfold Oper.wp
        go_simp
        all_goals exact ⟨_, rfl, Turn.refl _ _, rfl, StC.step (k := 30) hC (Below.refl _ _) hFin (by decide) (by rw [hlen]; decide)⟩
      · simp at hq; subst hq
        have g45 : act.tmps[45]?.getD undef = .int .i64 z := hI.has 29 45 rfl (hall ⟨29, .data⟩ (by simp) rfl)
        have g46 : act.tmps[46]?.getD undef = .bool false := hI.has 30 46 rfl (hall ⟨30, .data⟩ (by simp) rfl)
        clear hI hall hnot hcl
        refine .inl ⟨wanted_none rfl, ?_⟩
        unfold Oper.wp
        go_simp
        refine (i_mustI_no z pv _ (HV.out.below hbw)).mono ?_
        rintro e w4 ⟨rfl, hw⟩
        obtain rfl := hw.symm
        have hpan : bodyPost Tryz.prog Tryz.f28 (fun e w' => e = .panicked (chn pv) ∧ Below w.heap.size w w') (.panic (chn pv)) act _ := ⟨hdf, rfl, hbw⟩
        exact hpan
      · simp at hq; subst hq
        have g5 : act.tmps[5]?.getD undef = .slice (some ⟨g5, 0, none⟩) 3 c5 := hI.kept 5 (by kernel_rfl)
        clear hI hall hnot hcl
        refine .inl ⟨wanted_none rfl, ?_⟩
        unfold Oper.wp
        go_simp
        all_goals exact ⟨_, rfl, Turn.refl _ _, rfl, StC.step (k := 32) hC (Below.refl _ _) hFin (by decide) (by rw [hlen]; decide)⟩
      · simp at hq; subst hq
        have g48 : act.tmps[48]?.getD undef = .slice (some ⟨g5, 0, none⟩) 3 c5 := hI.has 32 48 rfl (hall ⟨32, .data⟩ (by simp) rfl)
        clear hI hall hnot hcl
        refine .inl ⟨wanted_none rfl, ?_⟩
        unfold Oper.wp
        go_simp
        all_goals exact ⟨_, rfl, Turn.refl _ _, rfl, StC.step (k := 33) hC (Below.refl _ _) hFin (by decide) (by rw [hlen]; decide)⟩
      · simp at hq; subst hq
        have g49 : act.tmps[49]?.getD undef = .pointer (some ⟨g5, 0, none⟩) := hI.has 33 49 rfl (hall ⟨33, .data⟩ (by simp) rfl)
        clear hI hall hnot hcl
        refine .inl ⟨wanted_none rfl, ?_⟩
        unfold Oper.wp
        go_simp
        all_goals exact ⟨_, rfl, Turn.refl _ _, rfl, StC.step (k := 34) hC (Below.refl _ _) hFin (by decide) (by rw [hlen]; decide)⟩
      · simp at hq; subst hq
        have g5 : act.tmps[5]?.getD undef = .slice (some ⟨g5, 0, none⟩) 3 c5 := hI.kept 5 (by kernel_rfl)
        clear hI hall hnot hcl
        refine .inl ⟨wanted_none rfl, ?_⟩
        unfold Oper.wp
        go_simp
        all_goals exact ⟨_, rfl, Turn.refl _ _, rfl, StC.step (k := 35) hC (Below.refl _ _) hFin (by decide) (by rw [hlen]; decide)⟩
      · simp at hq; subst hq
        have g51 : act.tmps[51]?.getD undef = .slice (some ⟨g5, 0, none⟩) 3 c5 := hI.has 35 51 rfl (hall ⟨35, .data⟩ (by simp) rfl)
        clear hI hall hnot hcl
        refine .inl ⟨wanted_none rfl, ?_⟩
        unfold Oper.wp
        go_simp
        all_goals exact ⟨_, rfl, Turn.refl _ _, rfl, StC.step (k := 36) hC (Below.refl _ _) hFin (by decide) (by rw [hlen]; decide)⟩
      · simp at hq; subst hq
        have g52 : act.tmps[52]?.getD undef = .pointer (some ⟨g5, 1, none⟩) := hI.has 36 52 rfl (hall ⟨36, .data⟩ (by simp) rfl)
        clear hI hall hnot hcl
        refine .inl ⟨wanted_none rfl, ?_⟩
        unfold Oper.wp
        go_simp
        all_goals exact ⟨_, rfl, Turn.refl _ _, rfl, StC.step (k := 37) hC (Below.refl _ _) hFin (by decide) (by rw [hlen]; decide)⟩
      · simp at hq; subst hq
        have g5 : act.tmps[5]?.getD undef = .slice (some ⟨g5, 0, none⟩) 3 c5 := hI.kept 5 (by kernel_rfl)
        clear hI hall hnot hcl
        refine .inl ⟨wanted_none rfl, ?_⟩
        unfold Oper.wp
        go_simp
        all_goals exact ⟨_, rfl, Turn.refl _ _, rfl, StC.step (k := 38) hC (Below.refl _ _) hFin (by decide) (by rw [hlen]; decide)⟩
      · simp at hq; subst hq
        have g54 : act.tmps[54]?.getD undef = .slice (some ⟨g5, 0, none⟩) 3 c5 := hI.has 38 54 rfl (hall ⟨38, .data⟩ (by simp) rfl)
        clear hI hall hnot hcl
        refine .inl ⟨wanted_none rfl, ?_⟩
        unfold Oper.wp
        go_simp
        all_goals exact ⟨_, rfl, Turn.refl _ _, rfl, StC.step (k := 39) hC (Below.refl _ _) hFin (by decide) (by rw [hlen]; decide)⟩
      · simp at hq; subst hq
        have g55 : act.tmps[55]?.getD undef = .pointer (some ⟨g5, 2, none⟩) := hI.has 39 55 rfl (hall ⟨39, .data⟩ (by simp) rfl)
        clear hI hall hnot hcl
        refine .inl ⟨wanted_none rfl, ?_⟩
        unfold Oper.wp
        go_simp
        all_goals exact ⟨_, rfl, Turn.refl _ _, rfl, StC.step (k := 40) hC (Below.refl _ _) hFin (by decide) (by rw [hlen]; decide)⟩
      · simp at hq; subst hq
        have g40 : act.tmps[40]?.getD undef = .agg #[.float .f32 x0, .float .f32 x1, .float .f32 x2, .float .f32 x3, .float .f32 x4, .float .f32 x5, .float .f32 x6, .float .f32 x7] := hI.has 24 40 rfl (hall ⟨24, .data⟩ (by simp) rfl)
        have G47 := hI.has 31 47 rfl (hall ⟨31, .data⟩ (by simp) rfl)
        have g50 : act.tmps[50]?.getD undef = .float .f32 y0 := hI.has 34 50 rfl (hall ⟨34, .data⟩ (by simp) rfl)
        have g53 : act.tmps[53]?.getD undef = .float .f32 y1 := hI.has 37 53 rfl (hall ⟨37, .data⟩ (by simp) rfl)
        have g56 : act.tmps[56]?.getD undef = .float .f32 y2 := hI.has 40 56 rfl (hall ⟨40, .data⟩ (by simp) rfl)
        clear hI hall hnot hcl
        refine .inl ⟨wanted_none rfl, ?_⟩
        unfold Oper.wp
        go_simp
        exact G47.elim
      · simp at hq; subst hq
        have g2 : act.tmps[2]?.getD undef = .pointer (some ⟨w.heap.size, 0, none⟩) := hI.kept 2 (by kernel_rfl)
        have G57 := hI.has 41 57 rfl (hall ⟨41, .data⟩ (by simp) rfl)
        clear hI hall hnot hcl
        refine .inl ⟨wanted_none rfl, ?_⟩
        unfold Oper.wp
        go_simp
        exact G57.elim
      · simp at hq
    case hend =>
      intro listed act w3 hI hall
      have hC := hI.cls
      have hdf := hI.defers
      have hlen : listed.size = 43 := hI.len
      have hbw := hC.1.2.2.2 w HB3.out (fun b hb => by have hb : b = w.heap.size := hb; omega)
      obtain ⟨m0, m1, m2, m3, m4, m5, m6, m7, n0, n1, n2, qq⟩ := HPC.out _ hC.1
      exact (hI.has 31 47 rfl (hall 31 (by decide))).elim
set_option maxHeartbeats 8000000 in
set_option maxRecDepth 100000 in
theorem i_driveIn_yes (s : ByteArray) (w : World) (hs : s.size ≤ 1048576) (hE : EV w) (hT : T64 w) (hX : T10 w) (hM : ML w) (hl : (cutS 59 s).length = 3) (hA : nmN (pcs 59 s 0) 8 = true) (hB : nmN (pcs 59 s 2) 3 = true) (hD : vlO (pcs 59 s 1) = true) :
    Calls Tryz.prog 28 #[.string s] w fun e w' => e = .returned (.agg #[.float .f32 (dvP s 0), .float .f32 (dvP s 1), .float .f32 (dvP s 2), .float .f32 (dvP s 3), .float .f32 (dvP s 4), .float .f32 (dvP s 5), .float .f32 (dvP s 6), .float .f32 (dvP s 7), .int .i64 (dvZ s), .float .f32 (dvE s 0), .float .f32 (dvE s 1), .float .f32 (dvE s 2)]) ∧ Below w.heap.size w w' := by
  obtain ⟨w0, hw0⟩ : ∃ z, z = w.alloc (.cells #[.float .f32 0, .float .f32 0, .float .f32 0, .float .f32 0, .float .f32 0, .float .f32 0, .float .f32 0, .float .f32 0, .int .i64 0, .float .f32 0, .float .f32 0, .float .f32 0] 26) := ⟨_, rfl⟩
  have b0 : Below w.heap.size w w0 := by rw [hw0]; exact (Below.refl _ _).alloc (Nat.le_refl _) _
  have HZ0 : Hid (w0.heap.size = w.heap.size + 1) := Lib.hid (by rw [hw0]; simp)
  have K0 : Hid (BlkL w0 w.heap.size [.float .f32 0, .float .f32 0, .float .f32 0, .float .f32 0, .float .f32 0, .float .f32 0, .float .f32 0, .float .f32 0, .int .i64 0, .float .f32 0, .float .f32 0, .float .f32 0]) := Lib.hid (by rw [hw0]; exact blkL_at w #[.float .f32 0, .float .f32 0, .float .f32 0, .float .f32 0, .float .f32 0, .float .f32 0, .float .f32 0, .float .f32 0, .int .i64 0, .float .f32 0, .float .f32 0, .float .f32 0] _ rfl)
  have B0 := Lib.hid b0
  obtain ⟨hl, hrest⟩ : (cutS 59 s).length = 3 ∧ True := ⟨hl, trivial⟩
  have HCP := Lib.hid (i_partsIn_yes 59 3 s w0 hs (hM.below b0) (by decide) (by decide) hl)
  have HPS : Hid ((cutS 59 s)[0]? = some (pcs 59 s 0) ∧ (cutS 59 s)[1]? = some (pcs 59 s 1) ∧ (cutS 59 s)[2]? = some (pcs 59 s 2)) := Lib.hid ⟨pcs_at hl (by decide), pcs_at hl (by decide), pcs_at hl (by decide)⟩
  have HCA : Hid (∀ W, Below w.heap.size w W → Calls Tryz.prog 61 #[.string (pcs 59 s 0), .int .i64 8] W fun e w' => ∃ c g, e = .returned (.slice (some ⟨g, 0, none⟩) 8 c) ∧ Nb w' W.heap.size g (nmL (pcs 59 s 0)) ∧ Below W.heap.size W w') := Lib.hid (fun W hb => i_numbersIn_nb (pcs 59 s 0) 8 W (Nat.le_trans (pcs_size _ _ _) hs) (hE.below hb) (hT.below hb) (hM.below hb) (by decide) hA)
  have HCB : Hid (∀ W, Below w.heap.size w W → Calls Tryz.prog 61 #[.string (pcs 59 s 2), .int .i64 3] W fun e w' => ∃ c g, e = .returned (.slice (some ⟨g, 0, none⟩) 3 c) ∧ Nb w' W.heap.size g (nmL (pcs 59 s 2)) ∧ Below W.heap.size W w') := Lib.hid (fun W hb => i_numbersIn_nb (pcs 59 s 2) 3 W (Nat.le_trans (pcs_size _ _ _) hs) (hE.below hb) (hT.below hb) (hM.below hb) (by decide) hB)
  have HCD : Hid (∀ W, Below w.heap.size w W → Calls Tryz.prog 63 #[.string (pcs 59 s 1)] W fun e w' => e = .returned (.tuple #[.int .i64 (vlR (pcs 59 s 1)), .bool true]) ∧ Below W.heap.size W w') := Lib.hid (fun W hb => by rw [← hD]; exact i_ReadDecimal _ W (Nat.le_trans (pcs_size _ _ _) hs) (hX.below hb) (hE.below hb))
  have HLN : Hid ((nmL (pcs 59 s 0)).length = 8 ∧ (nmL (pcs 59 s 2)).length = 3) := Lib.hid ⟨(nmN_iff.1 hA).2, (nmN_iff.1 hB).2⟩
  clear hs hE hT hX hM hl hA hB hD b0 hrest
  unfold dvP dvZ dvE
  generalize pcs 59 s 0 = a0 at *
  generalize pcs 59 s 1 = a1 at *
  generalize pcs 59 s 2 = a2 at *
  generalize vlR a1 = z at *
  obtain ⟨x0, hx0⟩ : ∃ x, x = (nmL a0).getD 0 0 := ⟨_, rfl⟩
  obtain ⟨x1, hx1⟩ : ∃ x, x = (nmL a0).getD 1 0 := ⟨_, rfl⟩
  obtain ⟨x2, hx2⟩ : ∃ x, x = (nmL a0).getD 2 0 := ⟨_, rfl⟩
  obtain ⟨x3, hx3⟩ : ∃ x, x = (nmL a0).getD 3 0 := ⟨_, rfl⟩
  obtain ⟨x4, hx4⟩ : ∃ x, x = (nmL a0).getD 4 0 := ⟨_, rfl⟩
  obtain ⟨x5, hx5⟩ : ∃ x, x = (nmL a0).getD 5 0 := ⟨_, rfl⟩
  obtain ⟨x6, hx6⟩ : ∃ x, x = (nmL a0).getD 6 0 := ⟨_, rfl⟩
  obtain ⟨x7, hx7⟩ : ∃ x, x = (nmL a0).getD 7 0 := ⟨_, rfl⟩
  obtain ⟨y0, hy0⟩ : ∃ x, x = (nmL a2).getD 0 0 := ⟨_, rfl⟩
  obtain ⟨y1, hy1⟩ : ∃ x, x = (nmL a2).getD 1 0 := ⟨_, rfl⟩
  obtain ⟨y2, hy2⟩ : ∃ x, x = (nmL a2).getD 2 0 := ⟨_, rfl⟩
  rw [← hx0, ← hx1, ← hx2, ← hx3, ← hx4, ← hx5, ← hx6, ← hx7, ← hy0, ← hy1, ← hy2]
  have HXS : Hid (x0 = (nmL a0).getD 0 0 ∧ x1 = (nmL a0).getD 1 0 ∧ x2 = (nmL a0).getD 2 0 ∧ x3 = (nmL a0).getD 3 0 ∧ x4 = (nmL a0).getD 4 0 ∧ x5 = (nmL a0).getD 5 0 ∧ x6 = (nmL a0).getD 6 0 ∧ x7 = (nmL a0).getD 7 0 ∧ y0 = (nmL a2).getD 0 0 ∧ y1 = (nmL a2).getD 1 0 ∧ y2 = (nmL a2).getD 2 0) := Lib.hid ⟨hx0, hx1, hx2, hx3, hx4, hx5, hx6, hx7, hy0, hy1, hy2⟩
  clear hx0 hx1 hx2 hx3 hx4 hx5 hx6 hx7 hy0 hy1 hy2
  go_enter Tryz.func28, Tryz.ntmps28
  go_upto_region 1 with fail
  rw [← hw0]
  clear hw0
  go_wp2_with fail
  refine HCP.out.mono ?_
  rintro e w1 ⟨N, rfl, hc, hlt, b1⟩
  have HB1 := Lib.hid (below_of B0.out B0.out.size b1)
  have HS1 := Lib.hid b1.size
  have K1 := Lib.hid (K0.out.below b1)
  obtain ⟨q, hq⟩ : ∃ q, q = w0.heap.size := ⟨_, rfl⟩
  rw [← hq] at hc hlt ⊢
  have HQ := Lib.hid hq
  have HP1 : Hid (∀ W, Below w1.heap.size w1 W → W.cell? ⟨q, 0, none⟩ = some (.string a0) ∧ W.cell? ⟨q, 1, none⟩ = some (.string a1) ∧ W.cell? ⟨q, 2, none⟩ = some (.string a2)) := Lib.hid (fun W hb => ⟨(hb.cell (p := ⟨q, 0, none⟩) hlt).trans (hc 0 _ HPS.out.1), (hb.cell (p := ⟨q, 1, none⟩) hlt).trans (hc 1 _ HPS.out.2.1), (hb.cell (p := ⟨q, 2, none⟩) hlt).trans (hc 2 _ HPS.out.2.2)⟩)
  have HQL := Lib.hid hlt
  clear hc hlt b1 HCP HPS B0 K0 hq
  go_wp2_with fail
  refine wp_region_inv4 (fun iq wv v => match iq with
    | 0 => v = .slice (some ⟨q, 0, none⟩) 3 N
    | 1 => v = .pointer (some ⟨q, 0, none⟩)
    | 2 => v = .string a0
    | 3 => ∃ c g, v = .slice (some ⟨g, 0, none⟩) 8 c ∧ Nb wv w0.heap.size g (nmL a0)
    | 4 => v = .slice (some ⟨q, 0, none⟩) 3 N
    | 5 => v = .pointer (some ⟨q, 2, none⟩)
    | 6 => v = .string a2
    | 7 => ∃ c g, v = .slice (some ⟨g, 0, none⟩) 3 c ∧ Nb wv w0.heap.size g (nmL a2)
    | 8 => ∃ c g, v = .slice (some ⟨g, 0, none⟩) 8 c ∧ Nb wv w0.heap.size g (nmL a0)
    | 9 => ∃ c g, v = .slice (some ⟨g, 0, none⟩) 3 c ∧ Nb wv w0.heap.size g (nmL a2)
    | _ => False) (fun _ ww => Below w1.heap.size w1 ww) (fun w w' => Below w.heap.size w w') ?hmono (by kernel_rfl) (by kernel_rfl) ((Below.refl _ _).drew) ?hop ?hend
  case hmono =>
    intro i wa wb v hR hV
    rcases i with _ | _ | _ | _ | _ | _ | _ | _ | _ | _ | i
    · exact hV
    · exact hV
    · exact hV
    · obtain ⟨c, g, rfl, ho⟩ := hV; exact ⟨c, g, rfl, ho.below hR⟩
    · exact hV
    · exact hV
    · exact hV
    · obtain ⟨c, g, rfl, ho⟩ := hV; exact ⟨c, g, rfl, ho.below hR⟩
    · obtain ⟨c, g, rfl, ho⟩ := hV; exact ⟨c, g, rfl, ho.below hR⟩
    · obtain ⟨c, g, rfl, ho⟩ := hV; exact ⟨c, g, rfl, ho.below hR⟩
    · exact hV
  case hop =>
    intro q o hq listed act w3 hI hnot hcl hall
    have hB := hI.cls
    have hdf := hI.defers
    obtain ⟨m0, m1, m2⟩ := HP1.out _ hB
    rcases q with _ | _ | _ | _ | _ | _ | _ | _ | _ | _ | q
    · simp at hq; subst hq
      have g3 : act.tmps[3]?.getD undef = .slice (some ⟨q, 0, none⟩) 3 N := hI.kept 3 (by kernel_rfl)
      clear hI hall hnot hcl
      refine .inl ⟨wanted_none rfl, ?_⟩
      unfold Oper.wp
      go_simp
      all_goals first | exact ⟨_, rfl, Below.refl _ _, rfl, hB⟩ | exact ⟨Below.refl _ _, hB⟩ | exact Below.refl _ _
    · simp at hq; subst hq
      have g8 : act.tmps[8]?.getD undef = .slice (some ⟨q, 0, none⟩) 3 N := hI.has 0 8 rfl (hall ⟨0, .data⟩ (by simp) rfl)
      clear hI hall hnot hcl
      refine .inl ⟨wanted_none rfl, ?_⟩
      unfold Oper.wp
      go_simp
      all_goals first | exact ⟨_, rfl, Below.refl _ _, rfl, hB⟩ | exact ⟨Below.refl _ _, hB⟩ | exact Below.refl _ _
    · simp at hq; subst hq
      have g9 : act.tmps[9]?.getD undef = .pointer (some ⟨q, 0, none⟩) := hI.has 1 9 rfl (hall ⟨1, .data⟩ (by simp) rfl)
      clear hI hall hnot hcl
      refine .inl ⟨wanted_none rfl, ?_⟩
      unfold Oper.wp
      go_simp
      all_goals first | exact ⟨_, rfl, Below.refl _ _, rfl, hB⟩ | exact ⟨Below.refl _ _, hB⟩ | exact Below.refl _ _
    · simp at hq; subst hq
      have g10 : act.tmps[10]?.getD undef = .string a0 := hI.has 2 10 rfl (hall ⟨2, .data⟩ (by simp) rfl)
      clear hI hall hnot hcl
      refine .inl ⟨wanted_none rfl, ?_⟩
      unfold Oper.wp
      go_simp
      refine (HCA.out _ (below_of HB1.out HB1.out.size hB)).mono ?_
      rintro e w4 ⟨c, g, rfl, ho, b4⟩
      have ho : Nb w4 w0.heap.size g (nmL a0) := ⟨Nat.le_trans (Nat.le_trans HS1.out hB.size) ho.1, ho.2⟩
      first | exact ⟨_, rfl, b4, ⟨c, g, rfl, ho⟩, below_of hB hB.size b4⟩ | exact ⟨_, rfl, b4, ⟨_, _, rfl, ho⟩, below_of hB hB.size b4⟩
    · simp at hq; subst hq
      have g3 : act.tmps[3]?.getD undef = .slice (some ⟨q, 0, none⟩) 3 N := hI.kept 3 (by kernel_rfl)
      clear hI hall hnot hcl
      refine .inl ⟨wanted_none rfl, ?_⟩
      unfold Oper.wp
      go_simp
      all_goals first | exact ⟨_, rfl, Below.refl _ _, rfl, hB⟩ | exact ⟨Below.refl _ _, hB⟩ | exact Below.refl _ _
    · simp at hq; subst hq
      have g12 : act.tmps[12]?.getD undef = .slice (some ⟨q, 0, none⟩) 3 N := hI.has 4 12 rfl (hall ⟨4, .data⟩ (by simp) rfl)
      clear hI hall hnot hcl
      refine .inl ⟨wanted_none rfl, ?_⟩
      unfold Oper.wp
      go_simp
      all_goals first | exact ⟨_, rfl, Below.refl _ _, rfl, hB⟩ | exact ⟨Below.refl _ _, hB⟩ | exact Below.refl _ _
    · simp at hq; subst hq
      have g13 : act.tmps[13]?.getD undef = .pointer (some ⟨q, 2, none⟩) := hI.has 5 13 rfl (hall ⟨5, .data⟩ (by simp) rfl)
      clear hI hall hnot hcl
      refine .inl ⟨wanted_none rfl, ?_⟩
      unfold Oper.wp
      go_simp
      all_goals first | exact ⟨_, rfl, Below.refl _ _, rfl, hB⟩ | exact ⟨Below.refl _ _, hB⟩ | exact Below.refl _ _
    · simp at hq; subst hq
      have g14 : act.tmps[14]?.getD undef = .string a2 := hI.has 6 14 rfl (hall ⟨6, .data⟩ (by simp) rfl)
      clear hI hall hnot hcl
      refine .inl ⟨wanted_none rfl, ?_⟩
      unfold Oper.wp
      go_simp
      refine (HCB.out _ (below_of HB1.out HB1.out.size hB)).mono ?_
      rintro e w4 ⟨c, g, rfl, ho, b4⟩
      have ho : Nb w4 w0.heap.size g (nmL a2) := ⟨Nat.le_trans (Nat.le_trans HS1.out hB.size) ho.1, ho.2⟩
      first | exact ⟨_, rfl, b4, ⟨c, g, rfl, ho⟩, below_of hB hB.size b4⟩ | exact ⟨_, rfl, b4, ⟨_, _, rfl, ho⟩, below_of hB hB.size b4⟩
    · simp at hq; subst hq
      obtain ⟨c3, g3, g11, h3a⟩ := hI.has 3 11 rfl (hall ⟨3, .data⟩ (by simp) rfl)
      clear hI hall hnot hcl
      refine .inl ⟨wanted_none rfl, ?_⟩
      unfold Oper.wp
      go_simp
      first | exact ⟨_, rfl, Below.refl _ _, ⟨c3, g3, rfl, h3a⟩⟩ | exact ⟨_, rfl, Below.refl _ _, ⟨c3, g3, rfl, h3a⟩, hB⟩
    · simp at hq; subst hq
      obtain ⟨c7, g7, g15, h7a⟩ := hI.has 7 15 rfl (hall ⟨7, .data⟩ (by simp) rfl)
      clear hI hall hnot hcl
      refine .inl ⟨wanted_none rfl, ?_⟩
      unfold Oper.wp
      go_simp
      first | exact ⟨_, rfl, Below.refl _ _, ⟨c7, g7, rfl, h7a⟩⟩ | exact ⟨_, rfl, Below.refl _ _, ⟨c7, g7, rfl, h7a⟩, hB⟩
    · simp at hq
  case hend =>
    intro listed act w3 hI hall
    have hB := hI.cls
    have hdf := hI.defers
    obtain ⟨m0, m1, m2⟩ := HP1.out _ hB
    obtain ⟨c4, g4, g4s, ho4⟩ := hI.has 8 4 rfl (hall 8 (by decide))
    obtain ⟨c5, g5, g5s, ho5⟩ := hI.has 9 5 rfl (hall 9 (by decide))
    have g0 := hI.kept 0 (by kernel_rfl)
    conv at g0 => rhs; whnf
    have g1 : act.tmps[1]?.getD undef = undef := hI.kept 1 (by kernel_rfl)
    have g2 := hI.kept 2 (by kernel_rfl)
    conv at g2 => rhs; whnf
    have g3 := hI.kept 3 (by kernel_rfl)
    conv at g3 => rhs; whnf
    have g6 := hI.kept 6 (by kernel_rfl)
    conv at g6 => rhs; whnf
    have g7 := hI.kept 7 (by kernel_rfl)
    conv at g7 => rhs; whnf
    have g16 : act.tmps[16]?.getD undef = undef := hI.kept 16 (by kernel_rfl)
    have g17 : act.tmps[17]?.getD undef = undef := hI.kept 17 (by kernel_rfl)
    have g18 : act.tmps[18]?.getD undef = undef := hI.kept 18 (by kernel_rfl)
    have g19 : act.tmps[19]?.getD undef = undef := hI.kept 19 (by kernel_rfl)
    have g20 : act.tmps[20]?.getD undef = undef := hI.kept 20 (by kernel_rfl)
    have g21 : act.tmps[21]?.getD undef = undef := hI.kept 21 (by kernel_rfl)
    have g22 : act.tmps[22]?.getD undef = undef := hI.kept 22 (by kernel_rfl)
    have g23 : act.tmps[23]?.getD undef = undef := hI.kept 23 (by kernel_rfl)
    have g24 : act.tmps[24]?.getD undef = undef := hI.kept 24 (by kernel_rfl)
    have g25 : act.tmps[25]?.getD undef = undef := hI.kept 25 (by kernel_rfl)
    have g26 : act.tmps[26]?.getD undef = undef := hI.kept 26 (by kernel_rfl)
    have g27 : act.tmps[27]?.getD undef = undef := hI.kept 27 (by kernel_rfl)
    have g28 : act.tmps[28]?.getD undef = undef := hI.kept 28 (by kernel_rfl)
    have g29 : act.tmps[29]?.getD undef = undef := hI.kept 29 (by kernel_rfl)
    have g30 : act.tmps[30]?.getD undef = undef := hI.kept 30 (by kernel_rfl)
    have g31 : act.tmps[31]?.getD undef = undef := hI.kept 31 (by kernel_rfl)
    have g32 : act.tmps[32]?.getD undef = undef := hI.kept 32 (by kernel_rfl)
    have g33 : act.tmps[33]?.getD undef = undef := hI.kept 33 (by kernel_rfl)
    have g34 : act.tmps[34]?.getD undef = undef := hI.kept 34 (by kernel_rfl)
    have g35 : act.tmps[35]?.getD undef = undef := hI.kept 35 (by kernel_rfl)
    have g36 : act.tmps[36]?.getD undef = undef := hI.kept 36 (by kernel_rfl)
    have g37 : act.tmps[37]?.getD undef = undef := hI.kept 37 (by kernel_rfl)
    have g38 : act.tmps[38]?.getD undef = undef := hI.kept 38 (by kernel_rfl)
    have g39 : act.tmps[39]?.getD undef = undef := hI.kept 39 (by kernel_rfl)
    have g40 : act.tmps[40]?.getD undef = undef := hI.kept 40 (by kernel_rfl)
    have g41 : act.tmps[41]?.getD undef = undef := hI.kept 41 (by kernel_rfl)
    have g42 : act.tmps[42]?.getD undef = undef := hI.kept 42 (by kernel_rfl)
    have g43 : act.tmps[43]?.getD undef = undef := hI.kept 43 (by kernel_rfl)
    have g44 : act.tmps[44]?.getD undef = undef := hI.kept 44 (by kernel_rfl)
    have g45 : act.tmps[45]?.getD undef = undef := hI.kept 45 (by kernel_rfl)
    have g46 : act.tmps[46]?.getD undef = undef := hI.kept 46 (by kernel_rfl)
    have g47 : act.tmps[47]?.getD undef = undef := hI.kept 47 (by kernel_rfl)
    have g48 : act.tmps[48]?.getD undef = undef := hI.kept 48 (by kernel_rfl)
    have g49 : act.tmps[49]?.getD undef = undef := hI.kept 49 (by kernel_rfl)
    have g50 : act.tmps[50]?.getD undef = undef := hI.kept 50 (by kernel_rfl)
    have g51 : act.tmps[51]?.getD undef = undef := hI.kept 51 (by kernel_rfl)
    have g52 : act.tmps[52]?.getD undef = undef := hI.kept 52 (by kernel_rfl)
    have g53 : act.tmps[53]?.getD undef = undef := hI.kept 53 (by kernel_rfl)
    have g54 : act.tmps[54]?.getD undef = undef := hI.kept 54 (by kernel_rfl)
    have g55 : act.tmps[55]?.getD undef = undef := hI.kept 55 (by kernel_rfl)
    have g56 : act.tmps[56]?.getD undef = undef := hI.kept 56 (by kernel_rfl)
    have g57 : act.tmps[57]?.getD undef = undef := hI.kept 57 (by kernel_rfl)
    have hsz : act.tmps.size = 58 := hI.size.trans (by kernel_rfl)
    have hd := hI.defers
    clear hI hall
    obtain ⟨tt, dd⟩ := act
    simp only at g0 g1 g2 g3 g4s g5s g6 g7 g16 g17 g18 g19 g20 g21 g22 g23 g24 g25 g26 g27 g28 g29 g30 g31 g32 g33 g34 g35 g36 g37 g38 g39 g40 g41 g42 g43 g44 g45 g46 g47 g48 g49 g50 g51 g52 g53 g54 g55 g56 g57 hsz hd
    subst hd
    have hl : tt = #[tt[0]?.getD undef, tt[1]?.getD undef, tt[2]?.getD undef, tt[3]?.getD undef, tt[4]?.getD undef, tt[5]?.getD undef, tt[6]?.getD undef, tt[7]?.getD undef, tt[8]?.getD undef, tt[9]?.getD undef, tt[10]?.getD undef, tt[11]?.getD undef, tt[12]?.getD undef, tt[13]?.getD undef, tt[14]?.getD undef, tt[15]?.getD undef, tt[16]?.getD undef, tt[17]?.getD undef, tt[18]?.getD undef, tt[19]?.getD undef, tt[20]?.getD undef, tt[21]?.getD undef, tt[22]?.getD undef, tt[23]?.getD undef, tt[24]?.getD undef, tt[25]?.getD undef, tt[26]?.getD undef, tt[27]?.getD undef, tt[28]?.getD undef, tt[29]?.getD undef, tt[30]?.getD undef, tt[31]?.getD undef, tt[32]?.getD undef, tt[33]?.getD undef, tt[34]?.getD undef, tt[35]?.getD undef, tt[36]?.getD undef, tt[37]?.getD undef, tt[38]?.getD undef, tt[39]?.getD undef, tt[40]?.getD undef, tt[41]?.getD undef, tt[42]?.getD undef, tt[43]?.getD undef, tt[44]?.getD undef, tt[45]?.getD undef, tt[46]?.getD undef, tt[47]?.getD undef, tt[48]?.getD undef, tt[49]?.getD undef, tt[50]?.getD undef, tt[51]?.getD undef, tt[52]?.getD undef, tt[53]?.getD undef, tt[54]?.getD undef, tt[55]?.getD undef, tt[56]?.getD undef, tt[57]?.getD undef] := (arr_lit hsz).trans rfl
    rw [g0, g1, g2, g3, g4s, g5s, g6, g7, g16, g17, g18, g19, g20, g21, g22, g23, g24, g25, g26, g27, g28, g29, g30, g31, g32, g33, g34, g35, g36, g37, g38, g39, g40, g41, g42, g43, g44, g45, g46, g47, g48, g49, g50, g51, g52, g53, g54, g55, g56, g57] at hl
    clear g0 g1 g2 g3 g4s g5s g6 g7 g16 g17 g18 g19 g20 g21 g22 g23 g24 g25 g26 g27 g28 g29 g30 g31 g32 g33 g34 g35 g36 g37 g38 g39 g40 g41 g42 g43 g44 g45 g46 g47 g48 g49 g50 g51 g52 g53 g54 g55 g56 g57 hsz
    generalize tt[8]?.getD undef = y8 at hl
    generalize tt[9]?.getD undef = y9 at hl
    generalize tt[10]?.getD undef = y10 at hl
    generalize tt[11]?.getD undef = y11 at hl
    generalize tt[12]?.getD undef = y12 at hl
    generalize tt[13]?.getD undef = y13 at hl
    generalize tt[14]?.getD undef = y14 at hl
    generalize tt[15]?.getD undef = y15 at hl
    subst hl
    have HB3 : Hid (Below w.heap.size w w3) := Lib.hid (below_of HB1.out HB1.out.size hB)
    have K3 : Hid (BlkL w3 w.heap.size [.float .f32 0, .float .f32 0, .float .f32 0, .float .f32 0, .float .f32 0, .float .f32 0, .float .f32 0, .float .f32 0, .int .i64 0, .float .f32 0, .float .f32 0, .float .f32 0]) := Lib.hid (K1.out.below hB)
    have HPC : Hid (∀ W, Turn w3 W (fun b => b = w.heap.size) → W.cell? ⟨g4, 0, none⟩ = some (.float .f32 x0) ∧ W.cell? ⟨g4, 1, none⟩ = some (.float .f32 x1) ∧ W.cell? ⟨g4, 2, none⟩ = some (.float .f32 x2) ∧ W.cell? ⟨g4, 3, none⟩ = some (.float .f32 x3) ∧ W.cell? ⟨g4, 4, none⟩ = some (.float .f32 x4) ∧ W.cell? ⟨g4, 5, none⟩ = some (.float .f32 x5) ∧ W.cell? ⟨g4, 6, none⟩ = some (.float .f32 x6) ∧ W.cell? ⟨g4, 7, none⟩ = some (.float .f32 x7) ∧ W.cell? ⟨g5, 0, none⟩ = some (.float .f32 y0) ∧ W.cell? ⟨g5, 1, none⟩ = some (.float .f32 y1) ∧ W.cell? ⟨g5, 2, none⟩ = some (.float .f32 y2) ∧ W.cell? ⟨q, 1, none⟩ = some (.string a1)) := Lib.hid (fun W ht => by
      have h8 := ho4.turn ht (by have := HZ0.out; omega)
      have h3 := ho5.turn ht (by have := HZ0.out; omega)
      refine ⟨by rw [HXS.out.1]; exact h8.2.2 0 (by rw [HLN.out.1]; decide), by rw [HXS.out.2.1]; exact h8.2.2 1 (by rw [HLN.out.1]; decide), by rw [HXS.out.2.2.1]; exact h8.2.2 2 (by rw [HLN.out.1]; decide), by rw [HXS.out.2.2.2.1]; exact h8.2.2 3 (by rw [HLN.out.1]; decide), by rw [HXS.out.2.2.2.2.1]; exact h8.2.2 4 (by rw [HLN.out.1]; decide), by rw [HXS.out.2.2.2.2.2.1]; exact h8.2.2 5 (by rw [HLN.out.1]; decide), by rw [HXS.out.2.2.2.2.2.2.1]; exact h8.2.2 6 (by rw [HLN.out.1]; decide), by rw [HXS.out.2.2.2.2.2.2.2.1]; exact h8.2.2 7 (by rw [HLN.out.1]; decide), by rw [HXS.out.2.2.2.2.2.2.2.2.1]; exact h3.2.2 0 (by rw [HLN.out.2]; decide), by rw [HXS.out.2.2.2.2.2.2.2.2.2.1]; exact h3.2.2 1 (by rw [HLN.out.2]; decide), by rw [HXS.out.2.2.2.2.2.2.2.2.2.2]; exact h3.2.2 2 (by rw [HLN.out.2]; decide), ?_⟩
      rw [ht.2.1 ⟨q, 1, none⟩ (Nat.lt_of_lt_of_le HQL.out hB.size) (by show ¬ q = w.heap.size; have := HZ0.out; have := HQ.out; omega)]
      exact m1)
    clear ho4 ho5 hB m0 m1 m2 HP1 HLN HXS HCA HCB HQL HB1 HS1 K1
    generalize w3 = w2 at *
    go_wp2_with fail
    have hFin := fun (wa wb : World) (hb : Below wa.heap.size wa wb) (h : BlkL wa w.heap.size [.float .f32 x0, .float .f32 x1, .float .f32 x2, .float .f32 x3, .float .f32 x4, .float .f32 x5, .float .f32 x6, .float .f32 x7, .int .i64 z, .float .f32 y0, .float .f32 y1, .float .f32 y2]) => h.below hb
    refine wp_region_inv4 (fun iq wv v => match iq with
      | 0 => v = .slice (some ⟨g4, 0, none⟩) 8 c4
      | 1 => v = .pointer (some ⟨g4, 0, none⟩)
      | 2 => v = .float .f32 x0
      | 3 => v = .slice (some ⟨g4, 0, none⟩) 8 c4
      | 4 => v = .pointer (some ⟨g4, 1, none⟩)
      | 5 => v = .float .f32 x1
      | 6 => v = .slice (some ⟨g4, 0, none⟩) 8 c4
      | 7 => v = .pointer (some ⟨g4, 2, none⟩)
      | 8 => v = .float .f32 x2
      | 9 => v = .slice (some ⟨g4, 0, none⟩) 8 c4
      | 10 => v = .pointer (some ⟨g4, 3, none⟩)
      | 11 => v = .float .f32 x3
      | 12 => v = .slice (some ⟨g4, 0, none⟩) 8 c4
      | 13 => v = .pointer (some ⟨g4, 4, none⟩)
      | 14 => v = .float .f32 x4
      | 15 => v = .slice (some ⟨g4, 0, none⟩) 8 c4
      | 16 => v = .pointer (some ⟨g4, 5, none⟩)
      | 17 => v = .float .f32 x5
      | 18 => v = .slice (some ⟨g4, 0, none⟩) 8 c4
      | 19 => v = .pointer (some ⟨g4, 6, none⟩)
      | 20 => v = .float .f32 x6
      | 21 => v = .slice (some ⟨g4, 0, none⟩) 8 c4
      | 22 => v = .pointer (some ⟨g4, 7, none⟩)
      | 23 => v = .float .f32 x7
      | 24 => v = .agg #[.float .f32 x0, .float .f32 x1, .float .f32 x2, .float .f32 x3, .float .f32 x4, .float .f32 x5, .float .f32 x6, .float .f32 x7]
      | 25 => v = .slice (some ⟨q, 0, none⟩) 3 N
      | 26 => v = .pointer (some ⟨q, 1, none⟩)
      | 27 => v = .string a1
      | 28 => v = .tuple #[.int .i64 z, .bool true]
      | 29 => v = .int .i64 z
      | 30 => v = .bool true
      | 31 => v = .int .i64 z
      | 32 => v = .slice (some ⟨g5, 0, none⟩) 3 c5
      | 33 => v = .pointer (some ⟨g5, 0, none⟩)
      | 34 => v = .float .f32 y0
      | 35 => v = .slice (some ⟨g5, 0, none⟩) 3 c5
      | 36 => v = .pointer (some ⟨g5, 1, none⟩)
      | 37 => v = .float .f32 y1
      | 38 => v = .slice (some ⟨g5, 0, none⟩) 3 c5
      | 39 => v = .pointer (some ⟨g5, 2, none⟩)
      | 40 => v = .float .f32 y2
      | 41 => v = .agg #[.float .f32 x0, .float .f32 x1, .float .f32 x2, .float .f32 x3, .float .f32 x4, .float .f32 x5, .float .f32 x6, .float .f32 x7, .int .i64 z, .float .f32 y0, .float .f32 y1, .float .f32 y2]
      | 42 => True
      | _ => False) (fun listed ww => StC w2 w.heap.size 12 42 (fun W => BlkL W w.heap.size [.float .f32 x0, .float .f32 x1, .float .f32 x2, .float .f32 x3, .float .f32 x4, .float .f32 x5, .float .f32 x6, .float .f32 x7, .int .i64 z, .float .f32 y0, .float .f32 y1, .float .f32 y2]) listed ww) (fun wa wb => Turn wa wb (fun b => b = w.heap.size)) ?hmono (by kernel_rfl) (by kernel_rfl) (StC.start K3.out rfl) ?hop ?hend
    case hmono =>
      intro i wa wb v hR hV
      rcases i with _ | _ | _ | _ | _ | _ | _ | _ | _ | _ | _ | _ | _ | _ | _ | _ | _ | _ | _ | _ | _ | _ | _ | _ | _ | _ | _ | _ | _ | _ | _ | _ | _ | _ | _ | _ | _ | _ | _ | _ | _ | _ | _ | i
      · exact hV
      · exact hV
      · exact hV
      · exact hV
      · exact hV
      · exact hV
      · exact hV
      · exact hV
      · exact hV
      · exact hV
      · exact hV
      · exact hV
      · exact hV
      · exact hV
      · exact hV
      · exact hV
      · exact hV
      · exact hV
      · exact hV
      · exact hV
      · exact hV
      · exact hV
      · exact hV
      · exact hV
      · exact hV
      · exact hV
      · exact hV
      · exact hV
      · exact hV
      · exact hV
      · exact hV
      · exact hV
      · exact hV
      · exact hV
      · exact hV
      · exact hV
      · exact hV
      · exact hV
      · exact hV
      · exact hV
      · exact hV
      · exact hV
      · exact hV
      · exact hV
    case hop =>
      intro q o hq listed act w3 hI hnot hcl hall
      have hC := hI.cls
      have hdf := hI.defers
      have hlen : listed.size = 43 := hI.len
      have hbw := hC.1.2.2.2 w HB3.out (fun b hb => by have hb : b = w.heap.size := hb; omega)
      obtain ⟨m0, m1, m2, m3, m4, m5, m6, m7, n0, n1, n2, qq⟩ := HPC.out _ hC.1
      rcases q with _ | _ | _ | _ | _ | _ | _ | _ | _ | _ | _ | _ | _ | _ | _ | _ | _ | _ | _ | _ | _ | _ | _ | _ | _ | _ | _ | _ | _ | _ | _ | _ | _ | _ | _ | _ | _ | _ | _ | _ | _ | _ | _ | q
      · simp at hq; subst hq
        have g4 : act.tmps[4]?.getD undef = .slice (some ⟨g4, 0, none⟩) 8 c4 := hI.kept 4 (by kernel_rfl)
        clear hI hall hnot hcl
        refine .inl ⟨wanted_none rfl, ?_⟩
        unfold Oper.wp
        go_simp
        all_goals exact ⟨_, rfl, Turn.refl _ _, rfl, StC.step (k := 0) hC (Below.refl _ _) hFin (by decide) (by rw [hlen]; decide)⟩
      · simp at hq; subst hq
        have g16 : act.tmps[16]?.getD undef = .slice (some ⟨g4, 0, none⟩) 8 c4 := hI.has 0 16 rfl (hall ⟨0, .data⟩ (by simp) rfl)
        clear hI hall hnot hcl
        refine .inl ⟨wanted_none rfl, ?_⟩
        unfold Oper.wp
        go_simp
        all_goals exact ⟨_, rfl, Turn.refl _ _, rfl, StC.step (k := 1) hC (Below.refl _ _) hFin (by decide) (by rw [hlen]; decide)⟩
      · simp at hq; subst hq
        have g17 : act.tmps[17]?.getD undef = .pointer (some ⟨g4, 0, none⟩) := hI.has 1 17 rfl (hall ⟨1, .data⟩ (by simp) rfl)
        clear hI hall hnot hcl
        refine .inl ⟨wanted_none rfl, ?_⟩
        unfold Oper.wp
        go_simp
        all_goals exact ⟨_, rfl, Turn.refl _ _, rfl, StC.step (k := 2) hC (Below.refl _ _) hFin (by decide) (by rw [hlen]; decide)⟩
      · simp at hq; subst hq
        have g4 : act.tmps[4]?.getD undef = .slice (some ⟨g4, 0, none⟩) 8 c4 := hI.kept 4 (by kernel_rfl)
        clear hI hall hnot hcl
        refine .inl ⟨wanted_none rfl, ?_⟩
        unfold Oper.wp
        go_simp
        all_goals exact ⟨_, rfl, Turn.refl _ _, rfl, StC.step (k := 3) hC (Below.refl _ _) hFin (by decide) (by rw [hlen]; decide)⟩
      · simp at hq; subst hq
        have g19 : act.tmps[19]?.getD undef = .slice (some ⟨g4, 0, none⟩) 8 c4 := hI.has 3 19 rfl (hall ⟨3, .data⟩ (by simp) rfl)
        clear hI hall hnot hcl
        refine .inl ⟨wanted_none rfl, ?_⟩
        unfold Oper.wp
        go_simp
        all_goals exact ⟨_, rfl, Turn.refl _ _, rfl, StC.step (k := 4) hC (Below.refl _ _) hFin (by decide) (by rw [hlen]; decide)⟩
      · simp at hq; subst hq
        have g20 : act.tmps[20]?.getD undef = .pointer (some ⟨g4, 1, none⟩) := hI.has 4 20 rfl (hall ⟨4, .data⟩ (by simp) rfl)
        clear hI hall hnot hcl
        refine .inl ⟨wanted_none rfl, ?_⟩
        unfold Oper.wp
        go_simp
        all_goals exact ⟨_, rfl, Turn.refl _ _, rfl, StC.step (k := 5) hC (Below.refl _ _) hFin (by decide) (by rw [hlen]; decide)⟩
      · simp at hq; subst hq
        have g4 : act.tmps[4]?.getD undef = .slice (some ⟨g4, 0, none⟩) 8 c4 := hI.kept 4 (by kernel_rfl)
        clear hI hall hnot hcl
        refine .inl ⟨wanted_none rfl, ?_⟩
        unfold Oper.wp
        go_simp
        all_goals exact ⟨_, rfl, Turn.refl _ _, rfl, StC.step (k := 6) hC (Below.refl _ _) hFin (by decide) (by rw [hlen]; decide)⟩
      · simp at hq; subst hq
        have g22 : act.tmps[22]?.getD undef = .slice (some ⟨g4, 0, none⟩) 8 c4 := hI.has 6 22 rfl (hall ⟨6, .data⟩ (by simp) rfl)
        clear hI hall hnot hcl
        refine .inl ⟨wanted_none rfl, ?_⟩
        unfold Oper.wp
        go_simp
        all_goals exact ⟨_, rfl, Turn.refl _ _, rfl, StC.step (k := 7) hC (Below.refl _ _) hFin (by decide) (by rw [hlen]; decide)⟩
      · simp at hq; subst hq
        have g23 : act.tmps[23]?.getD undef = .pointer (some ⟨g4, 2, none⟩) := hI.has 7 23 rfl (hall ⟨7, .data⟩ (by simp) rfl)
        clear hI hall hnot hcl
        refine .inl ⟨wanted_none rfl, ?_⟩
        unfold Oper.wp
        go_simp
        all_goals exact ⟨_, rfl, Turn.refl _ _, rfl, StC.step (k := 8) hC (Below.refl _ _) hFin (by decide) (by rw [hlen]; decide)⟩
      · simp at hq; subst hq
        have g4 : act.tmps[4]?.getD undef = .slice (some ⟨g4, 0, none⟩) 8 c4 := hI.kept 4 (by kernel_rfl)
        clear hI hall hnot hcl
        refine .inl ⟨wanted_none rfl, ?_⟩
        unfold Oper.wp
        go_simp
        all_goals exact ⟨_, rfl, Turn.refl _ _, rfl, StC.step (k := 9) hC (Below.refl _ _) hFin (by decide) (by rw [hlen]; decide)⟩
      · simp at hq; subst hq
        have g25 : act.tmps[25]?.getD undef = .slice (some ⟨g4, 0, none⟩) 8 c4 := hI.has 9 25 rfl (hall ⟨9, .data⟩ (by simp) rfl)
        clear hI hall hnot hcl
        refine .inl ⟨wanted_none rfl, ?_⟩
        unfold Oper.wp
        go_simp
        all_goals exact ⟨_, rfl, Turn.refl _ _, rfl, StC.step (k := 10) hC (Below.refl _ _) hFin (by decide) (by rw [hlen]; decide)⟩
      · simp at hq; subst hq
        have g26 : act.tmps[26]?.getD undef = .pointer (some ⟨g4, 3, none⟩) := hI.has 10 26 rfl (hall ⟨10, .data⟩ (by simp) rfl)
        clear hI hall hnot hcl
        refine .inl ⟨wanted_none rfl, ?_⟩
        unfold Oper.wp
        go_simp
        all_goals exact ⟨_, rfl, Turn.refl _ _, rfl, StC.step (k := 11) hC (Below.refl _ _) hFin (by decide) (by rw [hlen]; decide)⟩
      · simp at hq; subst hq
        have g4 : act.tmps[4]?.getD undef = .slice (some ⟨g4, 0, none⟩) 8 c4 := hI.kept 4 (by kernel_rfl)
        clear hI hall hnot hcl
        refine .inl ⟨wanted_none rfl, ?_⟩
        unfold Oper.wp
        go_simp
        all_goals exact ⟨_, rfl, Turn.refl _ _, rfl, StC.step (k := 12) hC (Below.refl _ _) hFin (by decide) (by rw [hlen]; decide)⟩
      · simp at hq; subst hq
        have g28 : act.tmps[28]?.getD undef = .slice (some ⟨g4, 0, none⟩) 8 c4 := hI.has 12 28 rfl (hall ⟨12, .data⟩ (by simp) rfl)
        clear hI hall hnot hcl
        refine .inl ⟨wanted_none rfl, ?_⟩
        unfold Oper.wp
        go_simp
        all_goals exact ⟨_, rfl, Turn.refl _ _, rfl, StC.step (k := 13) hC (Below.refl _ _) hFin (by decide) (by rw [hlen]; decide)⟩
      · simp at hq; subst hq
        have g29 : act.tmps[29]?.getD undef = .pointer (some ⟨g4, 4, none⟩) := hI.has 13 29 rfl (hall ⟨13, .data⟩ (by simp) rfl)
        clear hI hall hnot hcl
        refine .inl ⟨wanted_none rfl, ?_⟩
        unfold Oper.wp
        go_simp
        all_goals exact ⟨_, rfl, Turn.refl _ _, rfl, StC.step (k := 14) hC (Below.refl _ _) hFin (by decide) (by rw [hlen]; decide)⟩
      · simp at hq; subst hq
        have g4 : act.tmps[4]?.getD undef = .slice (some ⟨g4, 0, none⟩) 8 c4 := hI.kept 4 (by kernel_rfl)
        clear hI hall hnot hcl
        refine .inl ⟨wanted_none rfl, ?_⟩
        unfold Oper.wp
        go_simp
        all_goals exact ⟨_, rfl, Turn.refl _ _, rfl, StC.step (k := 15) hC (Below.refl _ _) hFin (by decide) (by rw [hlen]; decide)⟩
      · simp at hq; subst hq
        have g31 : act.tmps[31]?.getD undef = .slice (some ⟨g4, 0, none⟩) 8 c4 := hI.has 15 31 rfl (hall ⟨15, .data⟩ (by simp) rfl)
        clear hI hall hnot hcl
        refine .inl ⟨wanted_none rfl, ?_⟩
        unfold Oper.wp
        go_simp
        all_goals exact ⟨_, rfl, Turn.refl _ _, rfl, StC.step (k := 16) hC (Below.refl _ _) hFin (by decide) (by rw [hlen]; decide)⟩
      · simp at hq; subst hq
        have g32 : act.tmps[32]?.getD undef = .pointer (some ⟨g4, 5, none⟩) := hI.has 16 32 rfl (hall ⟨16, .data⟩ (by simp) rfl)
        clear hI hall hnot hcl
        refine .inl ⟨wanted_none rfl, ?_⟩
        unfold Oper.wp
        go_simp
        all_goals exact ⟨_, rfl, Turn.refl _ _, rfl, StC.step (k := 17) hC (Below.refl _ _) hFin (by decide) (by rw [hlen]; decide)⟩
      · simp at hq; subst hq
        have g4 : act.tmps[4]?.getD undef = .slice (some ⟨g4, 0, none⟩) 8 c4 := hI.kept 4 (by kernel_rfl)
        clear hI hall hnot hcl
        refine .inl ⟨wanted_none rfl, ?_⟩
        unfold Oper.wp
        go_simp
        all_goals exact ⟨_, rfl, Turn.refl _ _, rfl, StC.step (k := 18) hC (Below.refl _ _) hFin (by decide) (by rw [hlen]; decide)⟩
      · simp at hq; subst hq
        have g34 : act.tmps[34]?.getD undef = .slice (some ⟨g4, 0, none⟩) 8 c4 := hI.has 18 34 rfl (hall ⟨18, .data⟩ (by simp) rfl)
        clear hI hall hnot hcl
        refine .inl ⟨wanted_none rfl, ?_⟩
        unfold Oper.wp
        go_simp
        all_goals exact ⟨_, rfl, Turn.refl _ _, rfl, StC.step (k := 19) hC (Below.refl _ _) hFin (by decide) (by rw [hlen]; decide)⟩
      · simp at hq; subst hq
        have g35 : act.tmps[35]?.getD undef = .pointer (some ⟨g4, 6, none⟩) := hI.has 19 35 rfl (hall ⟨19, .data⟩ (by simp) rfl)
        clear hI hall hnot hcl
        refine .inl ⟨wanted_none rfl, ?_⟩
        unfold Oper.wp
        go_simp
        all_goals exact ⟨_, rfl, Turn.refl _ _, rfl, StC.step (k := 20) hC (Below.refl _ _) hFin (by decide) (by rw [hlen]; decide)⟩
      · simp at hq; subst hq
        have g4 : act.tmps[4]?.getD undef = .slice (some ⟨g4, 0, none⟩) 8 c4 := hI.kept 4 (by kernel_rfl)
        clear hI hall hnot hcl
        refine .inl ⟨wanted_none rfl, ?_⟩
        unfold Oper.wp
        go_simp
        all_goals exact ⟨_, rfl, Turn.refl _ _, rfl, StC.step (k := 21) hC (Below.refl _ _) hFin (by decide) (by rw [hlen]; decide)⟩
      · simp at hq; subst hq
        have g37 : act.tmps[37]?.getD undef = .slice (some ⟨g4, 0, none⟩) 8 c4 := hI.has 21 37 rfl (hall ⟨21, .data⟩ (by simp) rfl)
        clear hI hall hnot hcl
        refine .inl ⟨wanted_none rfl, ?_⟩
        unfold Oper.wp
        go_simp
        all_goals exact ⟨_, rfl, Turn.refl _ _, rfl, StC.step (k := 22) hC (Below.refl _ _) hFin (by decide) (by rw [hlen]; decide)⟩
      · simp at hq; subst hq
        have g38 : act.tmps[38]?.getD undef = .pointer (some ⟨g4, 7, none⟩) := hI.has 22 38 rfl (hall ⟨22, .data⟩ (by simp) rfl)
        clear hI hall hnot hcl
        refine .inl ⟨wanted_none rfl, ?_⟩
        unfold Oper.wp
        go_simp
        all_goals exact ⟨_, rfl, Turn.refl _ _, rfl, StC.step (k := 23) hC (Below.refl _ _) hFin (by decide) (by rw [hlen]; decide)⟩
      · simp at hq; subst hq
        have g18 : act.tmps[18]?.getD undef = .float .f32 x0 := hI.has 2 18 rfl (hall ⟨2, .data⟩ (by simp) rfl)
        have g21 : act.tmps[21]?.getD undef = .float .f32 x1 := hI.has 5 21 rfl (hall ⟨5, .data⟩ (by simp) rfl)
        have g24 : act.tmps[24]?.getD undef = .float .f32 x2 := hI.has 8 24 rfl (hall ⟨8, .data⟩ (by simp) rfl)
        have g27 : act.tmps[27]?.getD undef = .float .f32 x3 := hI.has 11 27 rfl (hall ⟨11, .data⟩ (by simp) rfl)
        have g30 : act.tmps[30]?.getD undef = .float .f32 x4 := hI.has 14 30 rfl (hall ⟨14, .data⟩ (by simp) rfl)
        have g33 : act.tmps[33]?.getD undef = .float .f32 x5 := hI.has 17 33 rfl (hall ⟨17, .data⟩ (by simp) rfl)
        have g36 : act.tmps[36]?.getD undef = .float .f32 x6 := hI.has 20 36 rfl (hall ⟨20, .data⟩ (by simp) rfl)
        have g39 : act.tmps[39]?.getD undef = .float .f32 x7 := hI.has 23 39 rfl (hall ⟨23, .data⟩ (by simp) rfl)
        clear hI hall hnot hcl
        refine .inl ⟨wanted_none rfl, ?_⟩
        unfold Oper.wp
        go_simp
        all_goals exact ⟨_, rfl, Turn.refl _ _, rfl, StC.step (k := 24) hC (Below.refl _ _) hFin (by decide) (by rw [hlen]; decide)⟩
      · simp at hq; subst hq
        have g3 : act.tmps[3]?.getD undef = .slice (some ⟨q, 0, none⟩) 3 N := hI.kept 3 (by kernel_rfl)
        clear hI hall hnot hcl
        refine .inl ⟨wanted_none rfl, ?_⟩
        unfold Oper.wp
        go_simp
        all_goals exact ⟨_, rfl, Turn.refl _ _, rfl, StC.step (k := 25) hC (Below.refl _ _) hFin (by decide) (by rw [hlen]; decide)⟩
      · simp at hq; subst hq
        have g41 : act.tmps[41]?.getD undef = .slice (some ⟨q, 0, none⟩) 3 N := hI.has 25 41 rfl (hall ⟨25, .data⟩ (by simp) rfl)
        clear hI hall hnot hcl
        refine .inl ⟨wanted_none rfl, ?_⟩
        unfold Oper.wp
        go_simp
        all_goals exact ⟨_, rfl, Turn.refl _ _, rfl, StC.step (k := 26) hC (Below.refl _ _) hFin (by decide) (by rw [hlen]; decide)⟩
      · simp at hq; subst hq
        have g42 : act.tmps[42]?.getD undef = .pointer (some ⟨q, 1, none⟩) := hI.has 26 42 rfl (hall ⟨26, .data⟩ (by simp) rfl)
        clear hI hall hnot hcl
        refine .inl ⟨wanted_none rfl, ?_⟩
        unfold Oper.wp
        go_simp
        all_goals exact ⟨_, rfl, Turn.refl _ _, rfl, StC.step (k := 27) hC (Below.refl _ _) hFin (by decide) (by rw [hlen]; decide)⟩
      · simp at hq; subst hq
        have g43 : act.tmps[43]?.getD undef = .string a1 := hI.has 27 43 rfl (hall ⟨27, .data⟩ (by simp) rfl)
        clear hI hall hnot hcl
        refine .inl ⟨wanted_none rfl, ?_⟩
        unfold Oper.wp
        go_simp
        refine (HCD.out _ hbw).mono ?_
        rintro e w4 ⟨rfl, b4⟩
        exact ⟨_, rfl, Turn.of_below b4 _, rfl, StC.step (k := 28) hC b4 hFin (by decide) (by rw [hlen]; decide)⟩
      · simp at hq; subst hq
        have g44 : act.tmps[44]?.getD undef = .tuple #[.int .i64 z, .bool true] := hI.has 28 44 rfl (hall ⟨28, .data⟩ (by simp) rfl)
        clear hI hall hnot hcl
        refine .inl ⟨wanted_none rfl, ?_⟩
        unfold Oper.wp
        go_simp
        all_goals exact ⟨_, rfl, Turn.refl _ _, rfl, StC.step (k := 29) hC (Below.refl _ _) hFin (by decide) (by rw [hlen]; decide)⟩
      · simp at hq; subst hq
        have g44 : act.tmps[44]?.getD undef = .tuple #[.int .i64 z, .bool true] := hI.has 28 44 rfl (hall ⟨28, .data⟩ (by simp) rfl)
        clear hI hall hnot hcl
        refine .inl ⟨wanted_none rfl, ?_⟩
        unfold Oper.wp
        go_simp
        all_goals exact ⟨_, rfl, Turn.refl _ _, rfl, StC.step (k := 30) hC (Below.refl _ _) hFin (by decide) (by rw [hlen]; decide)⟩
      · simp at hq; subst hq
        have g45 : act.tmps[45]?.getD undef = .int .i64 z := hI.has 29 45 rfl (hall ⟨29, .data⟩ (by simp) rfl)
        have g46 : act.tmps[46]?.getD undef = .bool true := hI.has 30 46 rfl (hall ⟨30, .data⟩ (by simp) rfl)
        clear hI hall hnot hcl
        refine .inl ⟨wanted_none rfl, ?_⟩
        unfold Oper.wp
        go_simp
        refine (i_mustI_yes z _).mono ?_
        rintro e w4 ⟨rfl, hw⟩
        obtain rfl := hw.symm
        exact ⟨_, rfl, Turn.refl _ _, rfl, StC.step (k := 31) hC (Below.refl _ _) hFin (by decide) (by rw [hlen]; decide)⟩
      · simp at hq; subst hq
        have g5 : act.tmps[5]?.getD undef = .slice (some ⟨g5, 0, none⟩) 3 c5 := hI.kept 5 (by kernel_rfl)
        clear hI hall hnot hcl
        refine .inl ⟨wanted_none rfl, ?_⟩
        unfold Oper.wp
        go_simp
        all_goals exact ⟨_, rfl, Turn.refl _ _, rfl, StC.step (k := 32) hC (Below.refl _ _) hFin (by decide) (by rw [hlen]; decide)⟩
      · simp at hq; subst hq
        have g48 : act.tmps[48]?.getD undef = .slice (some ⟨g5, 0, none⟩) 3 c5 := hI.has 32 48 rfl (hall ⟨32, .data⟩ (by simp) rfl)
        clear hI hall hnot hcl
        refine .inl ⟨wanted_none rfl, ?_⟩
        unfold Oper.wp
        go_simp
        all_goals exact ⟨_, rfl, Turn.refl _ _, rfl, StC.step (k := 33) hC (Below.refl _ _) hFin (by decide) (by rw [hlen]; decide)⟩
      · simp at hq; subst hq
        have g49 : act.tmps[49]?.getD undef = .pointer (some ⟨g5, 0, none⟩) := hI.has 33 49 rfl (hall ⟨33, .data⟩ (by simp) rfl)
        clear hI hall hnot hcl
        refine .inl ⟨wanted_none rfl, ?_⟩
        unfold Oper.wp
        go_simp
        all_goals exact ⟨_, rfl, Turn.refl _ _, rfl, StC.step (k := 34) hC (Below.refl _ _) hFin (by decide) (by rw [hlen]; decide)⟩
      · simp at hq; subst hq
        have g5 : act.tmps[5]?.getD undef = .slice (some ⟨g5, 0, none⟩) 3 c5 := hI.kept 5 (by kernel_rfl)
        clear hI hall hnot hcl
        refine .inl ⟨wanted_none rfl, ?_⟩
        unfold Oper.wp
        go_simp
        all_goals exact ⟨_, rfl, Turn.refl _ _, rfl, StC.step (k := 35) hC (Below.refl _ _) hFin (by decide) (by rw [hlen]; decide)⟩
      · simp at hq; subst hq
        have g51 : act.tmps[51]?.getD undef = .slice (some ⟨g5, 0, none⟩) 3 c5 := hI.has 35 51 rfl (hall ⟨35, .data⟩ (by simp) rfl)
        clear hI hall hnot hcl
        refine .inl ⟨wanted_none rfl, ?_⟩
        unfold Oper.wp
        go_simp
        all_goals exact ⟨_, rfl, Turn.refl _ _, rfl, StC.step (k := 36) hC (Below.refl _ _) hFin (by decide) (by rw [hlen]; decide)⟩
      · simp at hq; subst hq
        have g52 : act.tmps[52]?.getD undef = .pointer (some ⟨g5, 1, none⟩) := hI.has 36 52 rfl (hall ⟨36, .data⟩ (by simp) rfl)
        clear hI hall hnot hcl
        refine .inl ⟨wanted_none rfl, ?_⟩
        unfold Oper.wp
        go_simp
        all_goals exact ⟨_, rfl, Turn.refl _ _, rfl, StC.step (k := 37) hC (Below.refl _ _) hFin (by decide) (by rw [hlen]; decide)⟩
      · simp at hq; subst hq
        have g5 : act.tmps[5]?.getD undef = .slice (some ⟨g5, 0, none⟩) 3 c5 := hI.kept 5 (by kernel_rfl)
        clear hI hall hnot hcl
        refine .inl ⟨wanted_none rfl, ?_⟩
        unfold Oper.wp
        go_simp
        all_goals exact ⟨_, rfl, Turn.refl _ _, rfl, StC.step (k := 38) hC (Below.refl _ _) hFin (by decide) (by rw [hlen]; decide)⟩
      · simp at hq; subst hq
        have g54 : act.tmps[54]?.getD undef = .slice (some ⟨g5, 0, none⟩) 3 c5 := hI.has 38 54 rfl (hall ⟨38, .data⟩ (by simp) rfl)
        clear hI hall hnot hcl
        refine .inl ⟨wanted_none rfl, ?_⟩
        unfold Oper.wp
        go_simp
        all_goals exact ⟨_, rfl, Turn.refl _ _, rfl, StC.step (k := 39) hC (Below.refl _ _) hFin (by decide) (by rw [hlen]; decide)⟩
      · simp at hq; subst hq
        have g55 : act.tmps[55]?.getD undef = .pointer (some ⟨g5, 2, none⟩) := hI.has 39 55 rfl (hall ⟨39, .data⟩ (by simp) rfl)
        clear hI hall hnot hcl
        refine .inl ⟨wanted_none rfl, ?_⟩
        unfold Oper.wp
        go_simp
        all_goals exact ⟨_, rfl, Turn.refl _ _, rfl, StC.step (k := 40) hC (Below.refl _ _) hFin (by decide) (by rw [hlen]; decide)⟩
      · simp at hq; subst hq
        have g40 : act.tmps[40]?.getD undef = .agg #[.float .f32 x0, .float .f32 x1, .float .f32 x2, .float .f32 x3, .float .f32 x4, .float .f32 x5, .float .f32 x6, .float .f32 x7] := hI.has 24 40 rfl (hall ⟨24, .data⟩ (by simp) rfl)
        have g47 : act.tmps[47]?.getD undef = .int .i64 z := hI.has 31 47 rfl (hall ⟨31, .data⟩ (by simp) rfl)
        have g50 : act.tmps[50]?.getD undef = .float .f32 y0 := hI.has 34 50 rfl (hall ⟨34, .data⟩ (by simp) rfl)
        have g53 : act.tmps[53]?.getD undef = .float .f32 y1 := hI.has 37 53 rfl (hall ⟨37, .data⟩ (by simp) rfl)
        have g56 : act.tmps[56]?.getD undef = .float .f32 y2 := hI.has 40 56 rfl (hall ⟨40, .data⟩ (by simp) rfl)
        clear hI hall hnot hcl
        refine .inl ⟨wanted_none rfl, ?_⟩
        unfold Oper.wp
        go_simp
        all_goals exact ⟨_, rfl, Turn.refl _ _, rfl, StC.step (k := 41) hC (Below.refl _ _) hFin (by decide) (by rw [hlen]; decide)⟩
      · simp at hq; subst hq
        have g2 : act.tmps[2]?.getD undef = .pointer (some ⟨w.heap.size, 0, none⟩) := hI.kept 2 (by kernel_rfl)
        have g57 : act.tmps[57]?.getD undef = .agg #[.float .f32 x0, .float .f32 x1, .float .f32 x2, .float .f32 x3, .float .f32 x4, .float .f32 x5, .float .f32 x6, .float .f32 x7, .int .i64 z, .float .f32 y0, .float .f32 y1, .float .f32 y2] := hI.has 41 57 rfl (hall ⟨41, .data⟩ (by simp) rfl)
        clear hI hall hnot hcl
        refine .inl ⟨wanted_none rfl, ?_⟩
        unfold Oper.wp
        go_simp
        obtain ⟨vs, hvs, hvl⟩ := hC.2.1
        match vs, hvs, hvl with
        | [u0, u1, u2, u3, u4, u5, u6, u7, u8, u9, u10, u11], hvs, _ =>
        have p0 := (hvs.2 0 _ rfl).1
        have f0 := (hvs.2 0 _ rfl).2
        have p1 := (hvs.2 1 _ rfl).1
        have f1 := (hvs.2 1 _ rfl).2
        have p2 := (hvs.2 2 _ rfl).1
        have f2 := (hvs.2 2 _ rfl).2
        have p3 := (hvs.2 3 _ rfl).1
        have f3 := (hvs.2 3 _ rfl).2
        have p4 := (hvs.2 4 _ rfl).1
        have f4 := (hvs.2 4 _ rfl).2
        have p5 := (hvs.2 5 _ rfl).1
        have f5 := (hvs.2 5 _ rfl).2
        have p6 := (hvs.2 6 _ rfl).1
        have f6 := (hvs.2 6 _ rfl).2
        have p7 := (hvs.2 7 _ rfl).1
        have f7 := (hvs.2 7 _ rfl).2
        have p8 := (hvs.2 8 _ rfl).1
        have f8 := (hvs.2 8 _ rfl).2
        have p9 := (hvs.2 9 _ rfl).1
        have f9 := (hvs.2 9 _ rfl).2
        have p10 := (hvs.2 10 _ rfl).1
        have f10 := (hvs.2 10 _ rfl).2
        have p11 := (hvs.2 11 _ rfl).1
        have f11 := (hvs.2 11 _ rfl).2
        go_simp
        have hf := ((((((((((((hvs.set (i := 0) (by simp) (.float .f32 x0)).set (i := 1) (by simp) (.float .f32 x1)).set (i := 2) (by simp) (.float .f32 x2)).set (i := 3) (by simp) (.float .f32 x3)).set (i := 4) (by simp) (.float .f32 x4)).set (i := 5) (by simp) (.float .f32 x5)).set (i := 6) (by simp) (.float .f32 x6)).set (i := 7) (by simp) (.float .f32 x7)).set (i := 8) (by simp) (.int .i64 z)).set (i := 9) (by simp) (.float .f32 y0)).set (i := 10) (by simp) (.float .f32 y1)).set (i := 11) (by simp) (.float .f32 y2))
        have ht2 := ((((((((((((Turn.set w3 (B := w.heap.size) ⟨w.heap.size, 0, none⟩ rfl (.float .f32 x0)).trans (Turn.set _ (B := w.heap.size) ⟨w.heap.size, 1, none⟩ rfl (.float .f32 x1))).trans (Turn.set _ (B := w.heap.size) ⟨w.heap.size, 2, none⟩ rfl (.float .f32 x2))).trans (Turn.set _ (B := w.heap.size) ⟨w.heap.size, 3, none⟩ rfl (.float .f32 x3))).trans (Turn.set _ (B := w.heap.size) ⟨w.heap.size, 4, none⟩ rfl (.float .f32 x4))).trans (Turn.set _ (B := w.heap.size) ⟨w.heap.size, 5, none⟩ rfl (.float .f32 x5))).trans (Turn.set _ (B := w.heap.size) ⟨w.heap.size, 6, none⟩ rfl (.float .f32 x6))).trans (Turn.set _ (B := w.heap.size) ⟨w.heap.size, 7, none⟩ rfl (.float .f32 x7))).trans (Turn.set _ (B := w.heap.size) ⟨w.heap.size, 8, none⟩ rfl (.int .i64 z))).trans (Turn.set _ (B := w.heap.size) ⟨w.heap.size, 9, none⟩ rfl (.float .f32 y0))).trans (Turn.set _ (B := w.heap.size) ⟨w.heap.size, 10, none⟩ rfl (.float .f32 y1))).trans (Turn.set _ (B := w.heap.size) ⟨w.heap.size, 11, none⟩ rfl (.float .f32 y2)))
        have hst := StC.store (st := 42) hC ht2 hf rfl hf
        first | exact ⟨ht2, trivial, hst⟩ | exact ⟨ht2, hst⟩
      · simp at hq
    case hend =>
      intro listed act w3 hI hall
      have hC := hI.cls
      have hdf := hI.defers
      have hlen : listed.size = 43 := hI.len
      have hbw := hC.1.2.2.2 w HB3.out (fun b hb => by have hb : b = w.heap.size := hb; omega)
      obtain ⟨m0, m1, m2, m3, m4, m5, m6, m7, n0, n1, n2, qq⟩ := HPC.out _ hC.1
      have hf := hC.2.2 (hall 42 (by decide))
      have g2 : act.tmps[2]?.getD undef = .pointer (some ⟨w.heap.size, 0, none⟩) := hI.kept 2 (by kernel_rfl)
      have hd := hI.defers
      clear hI hall hFin hC
      have e0 := (hf.2 0 _ rfl).1
      have e1 := (hf.2 1 _ rfl).1
      have e2 := (hf.2 2 _ rfl).1
      have e3 := (hf.2 3 _ rfl).1
      have e4 := (hf.2 4 _ rfl).1
      have e5 := (hf.2 5 _ rfl).1
      have e6 := (hf.2 6 _ rfl).1
      have e7 := (hf.2 7 _ rfl).1
      have e8 := (hf.2 8 _ rfl).1
      have e9 := (hf.2 9 _ rfl).1
      have e10 := (hf.2 10 _ rfl).1
      have e11 := (hf.2 11 _ rfl).1
      go_wp2
      refine bodyPost_ret (v := .agg #[.float .f32 x0, .float .f32 x1, .float .f32 x2, .float .f32 x3, .float .f32 x4, .float .f32 x5, .float .f32 x6, .float .f32 x7, .int .i64 z, .float .f32 y0, .float .f32 y1, .float .f32 y2]) (by simp [results, Tryz.results28, g2, e0, e1, e2, e3, e4, e5, e6, e7, e8, e9, e10, e11, go_sem]) (by first | rfl | exact hd) ?_
      exact ⟨rfl, hbw⟩
theorem i_driveIn_no (s : ByteArray) (pv : Value) (w : World) (hs : s.size ≤ 1048576) (hE : EV w) (hT : T64 w) (hX : T10 w) (hM : ML w) (hV : EMv pv w) (h : dvO s = false) :
    Calls Tryz.prog 28 #[.string s] w fun e w' => e = .panicked (chn pv) ∧ Below w.heap.size w w' := by
  by_cases hl : (cutS 59 s).length = 3
  · cases hA : nmN (pcs 59 s 0) 8 <;> cases hB : nmN (pcs 59 s 2) 3
    · exact i_driveIn_2ff s pv w hs hE hT hX hM hV hl hA hB
    · exact i_driveIn_2ft s pv w hs hE hT hX hM hV hl hA hB
    · exact i_driveIn_2tf s pv w hs hE hT hX hM hV hl hA hB
    · cases hD : vlO (pcs 59 s 1)
      · exact i_driveIn_dec s pv w hs hE hT hX hM hV hl hA hB hD
      · rw [dvO_iff.2 ⟨hl, hA, hB, hD⟩] at h; cases h
  · exact i_driveIn_len s pv w hs hM hV hl
theorem i_driveIn_ok (s : ByteArray) (w : World) (hs : s.size ≤ 1048576) (hE : EV w) (hT : T64 w) (hX : T10 w) (hM : ML w) (h : dvO s = true) :
    Calls Tryz.prog 28 #[.string s] w fun e w' => e = .returned (.agg #[.float .f32 (dvP s 0), .float .f32 (dvP s 1), .float .f32 (dvP s 2), .float .f32 (dvP s 3), .float .f32 (dvP s 4), .float .f32 (dvP s 5), .float .f32 (dvP s 6), .float .f32 (dvP s 7), .int .i64 (dvZ s), .float .f32 (dvE s 0), .float .f32 (dvE s 1), .float .f32 (dvE s 2)]) ∧ Below w.heap.size w w' := by
  obtain ⟨hl, hA, hB, hD⟩ := dvO_iff.1 h
  exact i_driveIn_yes s w hs hE hT hX hM hl hA hB hD
end Go.Proofs.YtknabmknboffgaaGreatDoor
