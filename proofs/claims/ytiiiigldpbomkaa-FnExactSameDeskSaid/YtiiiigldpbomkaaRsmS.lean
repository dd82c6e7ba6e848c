/- The same rotors: the specification's side. No statement is proved here. -/
import Derived.Test.YtiiiigldpbomkaaRsmI
namespace Go.Proofs.Ytiiiigldpbomkaa
open Go Go.RowKit
set_option maxHeartbeats 16000000 in
set_option maxRecDepth 100000 in
theorem s_l03Same (A L D S : Option Addr) (ca cl cd n cs : Nat) (c : Int) (hub tip : Nat) (a l d s : List Nat) (A' L' D' S' : Option Addr) (ca' cl' cd' n' cs' : Nat) (c' : Int) (hub' tip' : Nat) (a' l' d' s' : List Nat) (B B' : Nat) (w : World) (h : Rt w A L D S a l d s) (h' : Rt w A' L' D' S' a' l' d' s') (hn : FewR a l d s n) (hn' : FewR a' l' d' s' n') (hw : WordsP a l d) (hw' : WordsP a' l' d') (hs : Words s) (hs' : Words s') (hv : canon .f32 hub < 4294967296 ∧ canon .f32 tip < 4294967296) (hv' : canon .f32 hub' < 4294967296 ∧ canon .f32 tip' < 4294967296) (hk : BlkL w B [.slice A a.length ca, .slice L l.length cl, .slice D d.length cd, .slice S n cs, .int .i64 c, .float .f32 hub, .float .f32 tip]) (hk' : BlkL w B' [.slice A' a'.length ca', .slice L' l'.length cl', .slice D' d'.length cd', .slice S' n' cs', .int .i64 c', .float .f32 hub', .float .f32 tip']) :
    Calls Try.prog 136 #[.pointer (some ⟨B, 0, none⟩), .pointer (some ⟨B', 0, none⟩)] w fun e w' => e = .returned (.bool (rotE a l d s n c hub tip a' l' d' s' n' c' hub' tip')) ∧ Below w.heap.size w w' := by
  have K1 := Lib.hid hk
  have K2 := Lib.hid hk'
  have KW : Hid ((∀ W, Below w.heap.size w W → BlkL W B [.slice A a.length ca, .slice L l.length cl, .slice D d.length cd, .slice S n cs, .int .i64 c, .float .f32 hub, .float .f32 tip]) ∧ (∀ W, Below w.heap.size w W → BlkL W B' [.slice A' a'.length ca', .slice L' l'.length cl', .slice D' d'.length cd', .slice S' n' cs', .int .i64 c', .float .f32 hub', .float .f32 tip'])) := Lib.hid ⟨fun W hW => hk.below hW, fun W hW => hk'.below hW⟩
  have A0 : ∀ W, Below w.heap.size w W → Hid (Calls Try.prog 176 #[.agg #[.slice A a.length ca, .slice L l.length cl, .slice D d.length cd], .agg #[.slice A' a'.length ca', .slice L' l'.length cl', .slice D' d'.length cd']] W fun e w' => e = .returned (.bool (sameP a l d a' l' d')) ∧ Below W.heap.size W w') := fun W hb => Lib.hid (s_SameProfile A L D A' L' D' ca cl cd ca' cl' cd' a l d a' l' d' W (h.1.below hb) (h'.1.below hb) hn.few hw hw')
  have Q0 : ∀ W, Hid (Calls Try.prog 177 #[.float .f32 hub, .float .f32 hub'] W fun e w' => e = .returned (.bool (decide (canon .f32 hub = canon .f32 hub'))) ∧ w' = W) := fun W => Lib.hid (s_l01Same _ _ _ hv.1 hv'.1)
  have Q1 : ∀ W, Hid (Calls Try.prog 177 #[.float .f32 tip, .float .f32 tip'] W fun e w' => e = .returned (.bool (decide (canon .f32 tip = canon .f32 tip'))) ∧ w' = W) := fun W => Lib.hid (s_l01Same _ _ _ hv.2 hv'.2)
  have HX : Hid (∀ k, k < n → canon .f32 (rad s k) < 4294967296 ∧ canon .f32 (chd s k) < 4294967296 ∧ canon .f32 (twi s k) < 4294967296) := Lib.hid (fun k hk => ⟨hs _ (by have := hn.1; omega), hs _ (by have := hn.1; omega), hs _ (by have := hn.1; omega)⟩)
  have HY : Hid (∀ k, k < n' → canon .f32 (rad s' k) < 4294967296 ∧ canon .f32 (chd s' k) < 4294967296 ∧ canon .f32 (twi s' k) < 4294967296) := Lib.hid (fun k hk => ⟨hs' _ (by have := hn'.1; omega), hs' _ (by have := hn'.1; omega), hs' _ (by have := hn'.1; omega)⟩)
  have HRS : Hid (Fl w S s ∧ Fl w S' s' ∧ s.length = n * 3 ∧ s'.length = n' * 3) := Lib.hid ⟨h.2, h'.2, hn.1, hn'.1⟩
  have hnb : n ≤ 1048576 ∧ n' ≤ 1048576 := ⟨by have := hn.2; omega, by have := hn'.2; omega⟩
  have HE : rotE a l d s n c hub tip a' l' d' s' n' c' hub' tip' = (sameP a l d a' l' d' && (sameSt s s' n n' && ((c == c') && (decide (canon .f32 hub = canon .f32 hub') && decide (canon .f32 tip = canon .f32 tip'))))) := rfl
  clear h h' hw hw' hv hv' hn hn' hs hs' hk hk'
  generalize rotE a l d s n c hub tip a' l' d' s' n' c' hub' tip' = ev at HE ⊢
  generalize sameP a l d a' l' d' = u0 at A0 HE
  generalize decide (canon .f32 hub = canon .f32 hub') = t0 at Q0 HE
  generalize decide (canon .f32 tip = canon .f32 tip') = t1 at Q1 HE
  obtain ⟨b0, hb0⟩ : ∃ x, x = ((n : Int) != (n' : Int)) := ⟨_, rfl⟩
  obtain ⟨b1, hb1⟩ : ∃ x, x = (c != c') := ⟨_, rfl⟩
  have HU0 : Hid (((n : Int) != (n' : Int)) = b0) := Lib.hid hb0.symm
  have HU1 : Hid ((c != c') = b1) := Lib.hid hb1.symm
  have hcc : (c == c') = !b1 := by rw [hb1]; simp [bne]
  have hnn : decide (n = n') = !b0 := by rw [hb0]; by_cases e : n = n' <;> simp [e, bne] <;> omega
  have HF : Hid ((u0 && (!b0 && (!b1 && (t0 && t1)))) = false → ev = false) := Lib.hid (fun hh => by
    rw [HE, hcc]
    unfold sameSt
    rw [hnn]
    cases u0 <;> cases b0 <;> cases b1 <;> cases t0 <;> cases t1 <;> first | (cases hh; done) | simp)
  have HT : Hid ((u0 && (!b0 && (!b1 && (t0 && t1)))) = true → n = n' ∧ ev = alls (stAt s s') n ∧ (∀ k, alls (stAt s s') k = false → k ≤ n → ev = false)) := Lib.hid (fun hh => by
    have h0 : u0 = true ∧ b0 = false ∧ b1 = false ∧ t0 = true ∧ t1 = true := by revert hh; cases u0 <;> cases b0 <;> cases b1 <;> cases t0 <;> cases t1 <;> simp
    obtain ⟨rfl, rfl, rfl, rfl, rfl⟩ := h0
    have hn0 : n = n' := of_decide_eq_true hnn
    have hev : ev = alls (stAt s s') n := by rw [HE, hcc, sameSt_yes hn0]; simp
    exact ⟨hn0, hev, fun k h1 h2 => by rw [hev]; exact alls_no h1 h2⟩)
  clear HE hcc hnn hb0 hb1
  go_enter Try.func136, Try.ntmps136
  go_wp2_with fail
  refine wp_region_inv4 (fun iq wv v => match iq with
    | 0 => v = .pointer (some ⟨B, 0, none⟩)
    | 1 => v = .pointer (some ⟨B, 0, none⟩)
    | 2 => v = .pointer (some ⟨B, 0, none⟩)
    | 3 => v = .agg #[.slice A a.length ca, .slice L l.length cl, .slice D d.length cd]
    | 4 => v = .pointer (some ⟨B', 0, none⟩)
    | 5 => v = .pointer (some ⟨B', 0, none⟩)
    | 6 => v = .pointer (some ⟨B', 0, none⟩)
    | 7 => v = .agg #[.slice A' a'.length ca', .slice L' l'.length cl', .slice D' d'.length cd']
    | 8 => v = .bool u0
    | 9 => v = .bool (!u0)
    | 10 => v = .bool (!u0)
    | 11 => Gd ((!u0)) false (v = .pointer (some ⟨B, 0, none⟩)) v
    | 12 => Gd ((!u0)) false (v = .pointer (some ⟨B, 0, none⟩)) v
    | 13 => Gd ((!u0)) false (v = .pointer (some ⟨B, 3, none⟩)) v
    | 14 => Gd ((!u0)) false (v = .slice S n cs) v
    | 15 => Gd ((!u0)) false (v = .int .i64 n) v
    | 16 => Gd ((!u0)) false (v = .pointer (some ⟨B', 0, none⟩)) v
    | 17 => Gd ((!u0)) false (v = .pointer (some ⟨B', 0, none⟩)) v
    | 18 => Gd ((!u0)) false (v = .pointer (some ⟨B', 3, none⟩)) v
    | 19 => Gd ((!u0)) false (v = .slice S' n' cs') v
    | 20 => Gd ((!u0)) false (v = .int .i64 n') v
    | 21 => Gd ((!u0)) false (v = .bool b0) v
    | 22 => v = .bool ((!u0) || b0)
    | 23 => v = .bool ((!u0) || b0)
    | 24 => Gd (((!u0) || b0)) false (v = .pointer (some ⟨B, 0, none⟩)) v
    | 25 => Gd (((!u0) || b0)) false (v = .pointer (some ⟨B, 0, none⟩)) v
    | 26 => Gd (((!u0) || b0)) false (v = .pointer (some ⟨B, 4, none⟩)) v
    | 27 => Gd (((!u0) || b0)) false (v = .int .i64 c) v
    | 28 => Gd (((!u0) || b0)) false (v = .pointer (some ⟨B', 0, none⟩)) v
    | 29 => Gd (((!u0) || b0)) false (v = .pointer (some ⟨B', 0, none⟩)) v
    | 30 => Gd (((!u0) || b0)) false (v = .pointer (some ⟨B', 4, none⟩)) v
    | 31 => Gd (((!u0) || b0)) false (v = .int .i64 c') v
    | 32 => Gd (((!u0) || b0)) false (v = .bool b1) v
    | 33 => v = .bool (((!u0) || b0) || b1)
    | 34 => v = .bool (((!u0) || b0) || b1)
    | 35 => Gd ((((!u0) || b0) || b1)) false (v = .pointer (some ⟨B, 0, none⟩)) v
    | 36 => Gd ((((!u0) || b0) || b1)) false (v = .pointer (some ⟨B, 0, none⟩)) v
    | 37 => Gd ((((!u0) || b0) || b1)) false (v = .pointer (some ⟨B, 5, none⟩)) v
    | 38 => Gd ((((!u0) || b0) || b1)) false (v = .float .f32 hub) v
    | 39 => Gd ((((!u0) || b0) || b1)) false (v = .pointer (some ⟨B', 0, none⟩)) v
    | 40 => Gd ((((!u0) || b0) || b1)) false (v = .pointer (some ⟨B', 0, none⟩)) v
    | 41 => Gd ((((!u0) || b0) || b1)) false (v = .pointer (some ⟨B', 5, none⟩)) v
    | 42 => Gd ((((!u0) || b0) || b1)) false (v = .float .f32 hub') v
    | 43 => Gd ((((!u0) || b0) || b1)) false (v = .bool t0) v
    | 44 => Gd ((((!u0) || b0) || b1)) false (v = .bool (!t0)) v
    | 45 => v = .bool ((((!u0) || b0) || b1) || ((!t0)))
    | 46 => v = .bool ((((!u0) || b0) || b1) || ((!t0)))
    | 47 => Gd (((((!u0) || b0) || b1) || ((!t0)))) false (v = .pointer (some ⟨B, 0, none⟩)) v
    | 48 => Gd (((((!u0) || b0) || b1) || ((!t0)))) false (v = .pointer (some ⟨B, 0, none⟩)) v
    | 49 => Gd (((((!u0) || b0) || b1) || ((!t0)))) false (v = .pointer (some ⟨B, 6, none⟩)) v
    | 50 => Gd (((((!u0) || b0) || b1) || ((!t0)))) false (v = .float .f32 tip) v
    | 51 => Gd (((((!u0) || b0) || b1) || ((!t0)))) false (v = .pointer (some ⟨B', 0, none⟩)) v
    | 52 => Gd (((((!u0) || b0) || b1) || ((!t0)))) false (v = .pointer (some ⟨B', 0, none⟩)) v
    | 53 => Gd (((((!u0) || b0) || b1) || ((!t0)))) false (v = .pointer (some ⟨B', 6, none⟩)) v
    | 54 => Gd (((((!u0) || b0) || b1) || ((!t0)))) false (v = .float .f32 tip') v
    | 55 => Gd (((((!u0) || b0) || b1) || ((!t0)))) false (v = .bool t1) v
    | 56 => Gd (((((!u0) || b0) || b1) || ((!t0)))) false (v = .bool (!t1)) v
    | 57 => v = .bool (((((!u0) || b0) || b1) || ((!t0))) || ((!t1)))
    | _ => False) (fun _ ww => Below w.heap.size w ww) (fun w w' => Below w.heap.size w w') ?hmono (by kernel_rfl) (by kernel_rfl) ((Below.refl _ _).drew) ?hop ?hend
  case hmono =>
    intro i wa wb v hR hV
    rcases i with _ | _ | _ | _ | _ | _ | _ | _ | _ | _ | _ | _ | _ | _ | _ | _ | _ | _ | _ | _ | _ | _ | _ | _ | _ | _ | _ | _ | _ | _ | _ | _ | _ | _ | _ | _ | _ | _ | _ | _ | _ | _ | _ | _ | _ | _ | _ | _ | _ | _ | _ | _ | _ | _ | _ | _ | _ | _ | i
    · exact hV
    · exact hV
    · exact hV
    · exact hV
    · exact hV
    · exact hV
    · exact hV
    · exact hV
    · exact hV
    · exact hV
    · exact hV
    · exact hV
    · exact hV
    · exact hV
    · exact hV
    · exact hV
    · exact hV
    · exact hV
    · exact hV
    · exact hV
    · exact hV
    · exact hV
    · exact hV
    · exact hV
    · exact hV
    · exact hV
    · exact hV
    · exact hV
    · exact hV
    · exact hV
    · exact hV
    · exact hV
    · exact hV
    · exact hV
    · exact hV
    · exact hV
    · exact hV
    · exact hV
    · exact hV
    · exact hV
    · exact hV
    · exact hV
    · exact hV
    · exact hV
    · exact hV
    · exact hV
    · exact hV
    · exact hV
    · exact hV
    · exact hV
    · exact hV
    · exact hV
    · exact hV
    · exact hV
    · exact hV
    · exact hV
    · exact hV
    · exact hV
    · exact hV
  case hop =>
    intro q o hq listed act w3 hI hnot hcl hall
    have hB := hI.cls
    obtain ⟨k0, k1, k2, k3, k4, k5, k6⟩ := (K1.out.below hB).seven
    obtain ⟨l0, l1, l2, l3, l4, l5, l6⟩ := (K2.out.below hB).seven
    rcases q with _ | _ | _ | _ | _ | _ | _ | _ | _ | _ | _ | _ | _ | _ | _ | _ | _ | _ | _ | _ | _ | _ | _ | _ | _ | _ | _ | _ | _ | _ | _ | _ | _ | _ | _ | _ | _ | _ | _ | _ | _ | _ | _ | _ | _ | _ | _ | _ | _ | _ | _ | _ | _ | _ | _ | _ | _ | _ | q
    · simp at hq; subst hq
      have g0 : act.tmps[0]?.getD undef = .pointer (some ⟨B, 0, none⟩) := hI.kept 0 (by kernel_rfl)
      clear hI hall hnot hcl
      refine .inl ⟨wanted_none rfl, ?_⟩
      unfold Oper.wp
      go_simp
      all_goals first | first | exact ⟨_, rfl, Below.refl _ _, rfl⟩ | exact ⟨_, rfl, Below.refl _ _, rfl, hB⟩ | exact ⟨Below.refl _ _, hB⟩ | exact Below.refl _ _
    · simp at hq; subst hq
      have g8 : act.tmps[8]?.getD undef = .pointer (some ⟨B, 0, none⟩) := hI.has 0 8 rfl (hall ⟨0, .data⟩ (by simp) rfl)
      clear hI hall hnot hcl
      refine .inl ⟨wanted_none rfl, ?_⟩
      unfold Oper.wp
      go_simp
      all_goals first | first | exact ⟨_, rfl, Below.refl _ _, rfl⟩ | exact ⟨_, rfl, Below.refl _ _, rfl, hB⟩ | exact ⟨Below.refl _ _, hB⟩ | exact Below.refl _ _
    · simp at hq; subst hq
      have g9 : act.tmps[9]?.getD undef = .pointer (some ⟨B, 0, none⟩) := hI.has 1 9 rfl (hall ⟨1, .data⟩ (by simp) rfl)
      clear hI hall hnot hcl
      refine .inl ⟨wanted_none rfl, ?_⟩
      unfold Oper.wp
      go_simp
      all_goals first | first | exact ⟨_, rfl, Below.refl _ _, rfl⟩ | exact ⟨_, rfl, Below.refl _ _, rfl, hB⟩ | exact ⟨Below.refl _ _, hB⟩ | exact Below.refl _ _
    · simp at hq; subst hq
      have g10 : act.tmps[10]?.getD undef = .pointer (some ⟨B, 0, none⟩) := hI.has 2 10 rfl (hall ⟨2, .data⟩ (by simp) rfl)
      clear hI hall hnot hcl
      refine .inl ⟨wanted_none rfl, ?_⟩
      unfold Oper.wp
      go_simp
      all_goals first | first | exact ⟨_, rfl, Below.refl _ _, rfl⟩ | exact ⟨_, rfl, Below.refl _ _, rfl, hB⟩ | exact ⟨Below.refl _ _, hB⟩ | exact Below.refl _ _
    · simp at hq; subst hq
      have g1 : act.tmps[1]?.getD undef = .pointer (some ⟨B', 0, none⟩) := hI.kept 1 (by kernel_rfl)
      clear hI hall hnot hcl
      refine .inl ⟨wanted_none rfl, ?_⟩
      unfold Oper.wp
      go_simp
      all_goals first | first | exact ⟨_, rfl, Below.refl _ _, rfl⟩ | exact ⟨_, rfl, Below.refl _ _, rfl, hB⟩ | exact ⟨Below.refl _ _, hB⟩ | exact Below.refl _ _
    · simp at hq; subst hq
      have g12 : act.tmps[12]?.getD undef = .pointer (some ⟨B', 0, none⟩) := hI.has 4 12 rfl (hall ⟨4, .data⟩ (by simp) rfl)
      clear hI hall hnot hcl
      refine .inl ⟨wanted_none rfl, ?_⟩
      unfold Oper.wp
      go_simp
      all_goals first | first | exact ⟨_, rfl, Below.refl _ _, rfl⟩ | exact ⟨_, rfl, Below.refl _ _, rfl, hB⟩ | exact ⟨Below.refl _ _, hB⟩ | exact Below.refl _ _
    · simp at hq; subst hq
      have g13 : act.tmps[13]?.getD undef = .pointer (some ⟨B', 0, none⟩) := hI.has 5 13 rfl (hall ⟨5, .data⟩ (by simp) rfl)
      clear hI hall hnot hcl
      refine .inl ⟨wanted_none rfl, ?_⟩
      unfold Oper.wp
      go_simp
      all_goals first | first | exact ⟨_, rfl, Below.refl _ _, rfl⟩ | exact ⟨_, rfl, Below.refl _ _, rfl, hB⟩ | exact ⟨Below.refl _ _, hB⟩ | exact Below.refl _ _
    · simp at hq; subst hq
      have g14 : act.tmps[14]?.getD undef = .pointer (some ⟨B', 0, none⟩) := hI.has 6 14 rfl (hall ⟨6, .data⟩ (by simp) rfl)
      clear hI hall hnot hcl
      refine .inl ⟨wanted_none rfl, ?_⟩
      unfold Oper.wp
      go_simp
      all_goals first | first | exact ⟨_, rfl, Below.refl _ _, rfl⟩ | exact ⟨_, rfl, Below.refl _ _, rfl, hB⟩ | exact ⟨Below.refl _ _, hB⟩ | exact Below.refl _ _
    · simp at hq; subst hq
      have g11 : act.tmps[11]?.getD undef = .agg #[.slice A a.length ca, .slice L l.length cl, .slice D d.length cd] := hI.has 3 11 rfl (hall ⟨3, .data⟩ (by simp) rfl)
      have g15 : act.tmps[15]?.getD undef = .agg #[.slice A' a'.length ca', .slice L' l'.length cl', .slice D' d'.length cd'] := hI.has 7 15 rfl (hall ⟨7, .data⟩ (by simp) rfl)
      clear hI hall hnot hcl
      refine .inl ⟨wanted_none rfl, ?_⟩
      unfold Oper.wp
      go_simp
      refine (A0 _ hB).out.mono ?_
      rintro e w4 ⟨rfl, b4⟩
      exact ⟨_, rfl, b4, rfl, below_of hB hB.size b4⟩
    · simp at hq; subst hq
      have g16 : act.tmps[16]?.getD undef = .bool u0 := hI.has 8 16 rfl (hall ⟨8, .data⟩ (by simp) rfl)
      clear hI hall hnot hcl
      refine .inl ⟨wanted_none rfl, ?_⟩
      unfold Oper.wp
      go_simp
      all_goals first | first | exact ⟨_, rfl, Below.refl _ _, rfl⟩ | exact ⟨_, rfl, Below.refl _ _, rfl, hB⟩ | exact ⟨Below.refl _ _, hB⟩ | exact Below.refl _ _
    · simp at hq; subst hq
      have g17 : act.tmps[17]?.getD undef = .bool (!u0) := hI.has 9 17 rfl (hall ⟨9, .data⟩ (by simp) rfl)
      clear hI hall hnot hcl
      refine .inl ⟨wanted_none rfl, ?_⟩
      unfold Oper.wp
      go_simp
      all_goals first | first | exact ⟨_, rfl, Below.refl _ _, rfl⟩ | exact ⟨_, rfl, Below.refl _ _, rfl, hB⟩ | exact ⟨Below.refl _ _, hB⟩ | exact Below.refl _ _
    · simp at hq; subst hq
      have gg : act.tmps[18]?.getD undef = .bool ((!u0)) := hI.has 10 18 rfl (hall ⟨10, .guard⟩ (by simp) rfl)
      rcases Bool.eq_false_or_eq_true ((!u0)) with hc | hc
      case inl =>
        exact .inr ⟨(wanted_of rfl rfl (gg.trans (by rw [hc]))).trans rfl, Gd.no hc, hB⟩
      have g0 : act.tmps[0]?.getD undef = .pointer (some ⟨B, 0, none⟩) := hI.kept 0 (by kernel_rfl)
      clear hI hall hnot hcl
      refine .inl ⟨(wanted_of rfl rfl (gg.trans (by rw [hc]))).trans rfl, ?_⟩
      clear gg
      unfold Oper.wp
      go_simp
      all_goals first | first | exact ⟨_, rfl, Below.refl _ _, Gd.yes (by first | rfl | exact hc) rfl⟩ | exact ⟨_, rfl, Below.refl _ _, Gd.yes (by first | rfl | exact hc) rfl, hB⟩ | exact ⟨Below.refl _ _, hB⟩ | exact Below.refl _ _
    · simp at hq; subst hq
      have gg : act.tmps[18]?.getD undef = .bool ((!u0)) := hI.has 10 18 rfl (hall ⟨10, .guard⟩ (by simp) rfl)
      rcases Bool.eq_false_or_eq_true ((!u0)) with hc | hc
      case inl =>
        exact .inr ⟨(wanted_of rfl rfl (gg.trans (by rw [hc]))).trans rfl, Gd.no hc, hB⟩
      have g19 : act.tmps[19]?.getD undef = .pointer (some ⟨B, 0, none⟩) := Gd.get (hI.has 11 19 rfl (hall ⟨11, .data⟩ (by simp) rfl)) hc
      clear hI hall hnot hcl
      refine .inl ⟨(wanted_of rfl rfl (gg.trans (by rw [hc]))).trans rfl, ?_⟩
      clear gg
      unfold Oper.wp
      go_simp
      all_goals first | first | exact ⟨_, rfl, Below.refl _ _, Gd.yes (by first | rfl | exact hc) rfl⟩ | exact ⟨_, rfl, Below.refl _ _, Gd.yes (by first | rfl | exact hc) rfl, hB⟩ | exact ⟨Below.refl _ _, hB⟩ | exact Below.refl _ _
    · simp at hq; subst hq
      have gg : act.tmps[18]?.getD undef = .bool ((!u0)) := hI.has 10 18 rfl (hall ⟨10, .guard⟩ (by simp) rfl)
      rcases Bool.eq_false_or_eq_true ((!u0)) with hc | hc
      case inl =>
        exact .inr ⟨(wanted_of rfl rfl (gg.trans (by rw [hc]))).trans rfl, Gd.no hc, hB⟩
      have g20 : act.tmps[20]?.getD undef = .pointer (some ⟨B, 0, none⟩) := Gd.get (hI.has 12 20 rfl (hall ⟨12, .data⟩ (by simp) rfl)) hc
      clear hI hall hnot hcl
      refine .inl ⟨(wanted_of rfl rfl (gg.trans (by rw [hc]))).trans rfl, ?_⟩
      clear gg
      unfold Oper.wp
      go_simp
      all_goals first | first | exact ⟨_, rfl, Below.refl _ _, Gd.yes (by first | rfl | exact hc) rfl⟩ | exact ⟨_, rfl, Below.refl _ _, Gd.yes (by first | rfl | exact hc) rfl, hB⟩ | exact ⟨Below.refl _ _, hB⟩ | exact Below.refl _ _
    · simp at hq; subst hq
      have gg : act.tmps[18]?.getD undef = .bool ((!u0)) := hI.has 10 18 rfl (hall ⟨10, .guard⟩ (by simp) rfl)
      rcases Bool.eq_false_or_eq_true ((!u0)) with hc | hc
      case inl =>
        exact .inr ⟨(wanted_of rfl rfl (gg.trans (by rw [hc]))).trans rfl, Gd.no hc, hB⟩
      have g21 : act.tmps[21]?.getD undef = .pointer (some ⟨B, 3, none⟩) := Gd.get (hI.has 13 21 rfl (hall ⟨13, .data⟩ (by simp) rfl)) hc
      clear hI hall hnot hcl
      refine .inl ⟨(wanted_of rfl rfl (gg.trans (by rw [hc]))).trans rfl, ?_⟩
      clear gg
      unfold Oper.wp
      go_simp
      all_goals first | first | exact ⟨_, rfl, Below.refl _ _, Gd.yes (by first | rfl | exact hc) rfl⟩ | exact ⟨_, rfl, Below.refl _ _, Gd.yes (by first | rfl | exact hc) rfl, hB⟩ | exact ⟨Below.refl _ _, hB⟩ | exact Below.refl _ _
    · simp at hq; subst hq
      have gg : act.tmps[18]?.getD undef = .bool ((!u0)) := hI.has 10 18 rfl (hall ⟨10, .guard⟩ (by simp) rfl)
      rcases Bool.eq_false_or_eq_true ((!u0)) with hc | hc
      case inl =>
        exact .inr ⟨(wanted_of rfl rfl (gg.trans (by rw [hc]))).trans rfl, Gd.no hc, hB⟩
      have g22 : act.tmps[22]?.getD undef = .slice S n cs := Gd.get (hI.has 14 22 rfl (hall ⟨14, .data⟩ (by simp) rfl)) hc
      clear hI hall hnot hcl
      refine .inl ⟨(wanted_of rfl rfl (gg.trans (by rw [hc]))).trans rfl, ?_⟩
      clear gg
      unfold Oper.wp
      go_simp
      all_goals first | first | exact ⟨_, rfl, Below.refl _ _, Gd.yes (by first | rfl | exact hc) rfl⟩ | exact ⟨_, rfl, Below.refl _ _, Gd.yes (by first | rfl | exact hc) rfl, hB⟩ | exact ⟨Below.refl _ _, hB⟩ | exact Below.refl _ _
    · simp at hq; subst hq
      have gg : act.tmps[18]?.getD undef = .bool ((!u0)) := hI.has 10 18 rfl (hall ⟨10, .guard⟩ (by simp) rfl)
      rcases Bool.eq_false_or_eq_true ((!u0)) with hc | hc
      case inl =>
        exact .inr ⟨(wanted_of rfl rfl (gg.trans (by rw [hc]))).trans rfl, Gd.no hc, hB⟩
      have g1 : act.tmps[1]?.getD undef = .pointer (some ⟨B', 0, none⟩) := hI.kept 1 (by kernel_rfl)
      clear hI hall hnot hcl
      refine .inl ⟨(wanted_of rfl rfl (gg.trans (by rw [hc]))).trans rfl, ?_⟩
      clear gg
      unfold Oper.wp
      go_simp
      all_goals first | first | exact ⟨_, rfl, Below.refl _ _, Gd.yes (by first | rfl | exact hc) rfl⟩ | exact ⟨_, rfl, Below.refl _ _, Gd.yes (by first | rfl | exact hc) rfl, hB⟩ | exact ⟨Below.refl _ _, hB⟩ | exact Below.refl _ _
    · simp at hq; subst hq
      have gg : act.tmps[18]?.getD undef = .bool ((!u0)) := hI.has 10 18 rfl (hall ⟨10, .guard⟩ (by simp) rfl)
      rcases Bool.eq_false_or_eq_true ((!u0)) with hc | hc
      case inl =>
        exact .inr ⟨(wanted_of rfl rfl (gg.trans (by rw [hc]))).trans rfl, Gd.no hc, hB⟩
      have g24 : act.tmps[24]?.getD undef = .pointer (some ⟨B', 0, none⟩) := Gd.get (hI.has 16 24 rfl (hall ⟨16, .data⟩ (by simp) rfl)) hc
      clear hI hall hnot hcl
      refine .inl ⟨(wanted_of rfl rfl (gg.trans (by rw [hc]))).trans rfl, ?_⟩
      clear gg
      unfold Oper.wp
      go_simp
      all_goals first | first | exact ⟨_, rfl, Below.refl _ _, Gd.yes (by first | rfl | exact hc) rfl⟩ | exact ⟨_, rfl, Below.refl _ _, Gd.yes (by first | rfl | exact hc) rfl, hB⟩ | exact ⟨Below.refl _ _, hB⟩ | exact Below.refl _ _
    · simp at hq; subst hq
      have gg : act.tmps[18]?.getD undef = .bool ((!u0)) := hI.has 10 18 rfl (hall ⟨10, .guard⟩ (by simp) rfl)
      rcases Bool.eq_false_or_eq_true ((!u0)) with hc | hc
      case inl =>
        exact .inr ⟨(wanted_of rfl rfl (gg.trans (by rw [hc]))).trans rfl, Gd.no hc, hB⟩
      have g25 : act.tmps[25]?.getD undef = .pointer (some ⟨B', 0, none⟩) := Gd.get (hI.has 17 25 rfl (hall ⟨17, .data⟩ (by simp) rfl)) hc
      clear hI hall hnot hcl
      refine .inl ⟨(wanted_of rfl rfl (gg.trans (by rw [hc]))).trans rfl, ?_⟩
      clear gg
      unfold Oper.wp
      go_simp
      all_goals first | first | exact ⟨_, rfl, Below.refl _ _, Gd.yes (by first | rfl | exact hc) rfl⟩ | exact ⟨_, rfl, Below.refl _ _, Gd.yes (by first | rfl | exact hc) rfl, hB⟩ | exact ⟨Below.refl _ _, hB⟩ | exact Below.refl _ _
    · simp at hq; subst hq
      have gg : act.tmps[18]?.getD undef = .bool ((!u0)) := hI.has 10 18 rfl (hall ⟨10, .guard⟩ (by simp) rfl)
      rcases Bool.eq_false_or_eq_true ((!u0)) with hc | hc
      case inl =>
        exact .inr ⟨(wanted_of rfl rfl (gg.trans (by rw [hc]))).trans rfl, Gd.no hc, hB⟩
      have g26 : act.tmps[26]?.getD undef = .pointer (some ⟨B', 3, none⟩) := Gd.get (hI.has 18 26 rfl (hall ⟨18, .data⟩ (by simp) rfl)) hc
      clear hI hall hnot hcl
      refine .inl ⟨(wanted_of rfl rfl (gg.trans (by rw [hc]))).trans rfl, ?_⟩
      clear gg
      unfold Oper.wp
      go_simp
      all_goals first | first | exact ⟨_, rfl, Below.refl _ _, Gd.yes (by first | rfl | exact hc) rfl⟩ | exact ⟨_, rfl, Below.refl _ _, Gd.yes (by first | rfl | exact hc) rfl, hB⟩ | exact ⟨Below.refl _ _, hB⟩ | exact Below.refl _ _
    · simp at hq; subst hq
      have gg : act.tmps[18]?.getD undef = .bool ((!u0)) := hI.has 10 18 rfl (hall ⟨10, .guard⟩ (by simp) rfl)
      rcases Bool.eq_false_or_eq_true ((!u0)) with hc | hc
      case inl =>
        exact .inr ⟨(wanted_of rfl rfl (gg.trans (by rw [hc]))).trans rfl, Gd.no hc, hB⟩
      have g27 : act.tmps[27]?.getD undef = .slice S' n' cs' := Gd.get (hI.has 19 27 rfl (hall ⟨19, .data⟩ (by simp) rfl)) hc
      clear hI hall hnot hcl
      refine .inl ⟨(wanted_of rfl rfl (gg.trans (by rw [hc]))).trans rfl, ?_⟩
      clear gg
      unfold Oper.wp
      go_simp
      all_goals first | first | exact ⟨_, rfl, Below.refl _ _, Gd.yes (by first | rfl | exact hc) rfl⟩ | exact ⟨_, rfl, Below.refl _ _, Gd.yes (by first | rfl | exact hc) rfl, hB⟩ | exact ⟨Below.refl _ _, hB⟩ | exact Below.refl _ _
    · simp at hq; subst hq
      have gg : act.tmps[18]?.getD undef = .bool ((!u0)) := hI.has 10 18 rfl (hall ⟨10, .guard⟩ (by simp) rfl)
      rcases Bool.eq_false_or_eq_true ((!u0)) with hc | hc
      case inl =>
        exact .inr ⟨(wanted_of rfl rfl (gg.trans (by rw [hc]))).trans rfl, Gd.no hc, hB⟩
      have g23 : act.tmps[23]?.getD undef = .int .i64 n := Gd.get (hI.has 15 23 rfl (hall ⟨15, .data⟩ (by simp) rfl)) hc
      have g28 : act.tmps[28]?.getD undef = .int .i64 n' := Gd.get (hI.has 20 28 rfl (hall ⟨20, .data⟩ (by simp) rfl)) hc
      clear hI hall hnot hcl
      refine .inl ⟨(wanted_of rfl rfl (gg.trans (by rw [hc]))).trans rfl, ?_⟩
      clear gg
      unfold Oper.wp
      go_simp
      rw [HU0.out]
      first | exact ⟨_, rfl, Below.refl _ _, Gd.yes (by first | rfl | exact hc) rfl⟩ | exact ⟨_, rfl, Below.refl _ _, Gd.yes (by first | rfl | exact hc) rfl, hB⟩
    · simp at hq; subst hq
      have g18 : act.tmps[18]?.getD undef = .bool (!u0) := hI.has 10 18 rfl (hall ⟨10, .data⟩ (by simp) rfl)
      have G29 := hI.has 21 29 rfl (hall ⟨21, .data⟩ (by simp) rfl)
      clear hI hall hnot hcl
      refine .inl ⟨wanted_none rfl, ?_⟩
      unfold Oper.wp
      rcases Bool.eq_false_or_eq_true ((!u0)) with hc | hc
      · rw [hc] at g18
        have g29 := Gd.un G29 hc
        clear G29
        go_simp
        all_goals first | exact ⟨_, rfl, Below.refl _ _, by first | rfl | (rw [hc]; rfl)⟩ | exact ⟨_, rfl, Below.refl _ _, by first | rfl | (rw [hc]; rfl), hB⟩ | exact Below.refl _ _ | exact ⟨Below.refl _ _, by first | rfl | (rw [hc]; rfl), hB⟩ | exact ⟨Below.refl _ _, hB⟩
      · rw [hc] at g18
        have g29 := Gd.get G29 hc
        clear G29
        go_simp
        all_goals first | exact ⟨_, rfl, Below.refl _ _, by first | rfl | (rw [hc]; rfl)⟩ | exact ⟨_, rfl, Below.refl _ _, by first | rfl | (rw [hc]; rfl), hB⟩ | exact Below.refl _ _ | exact ⟨Below.refl _ _, by first | rfl | (rw [hc]; rfl), hB⟩ | exact ⟨Below.refl _ _, hB⟩
    · simp at hq; subst hq
      have g30 : act.tmps[30]?.getD undef = .bool ((!u0) || b0) := hI.has 22 30 rfl (hall ⟨22, .data⟩ (by simp) rfl)
      clear hI hall hnot hcl
      refine .inl ⟨wanted_none rfl, ?_⟩
      unfold Oper.wp
      go_simp
      all_goals first | first | exact ⟨_, rfl, Below.refl _ _, rfl⟩ | exact ⟨_, rfl, Below.refl _ _, rfl, hB⟩ | exact ⟨Below.refl _ _, hB⟩ | exact Below.refl _ _
    · simp at hq; subst hq
      have gg : act.tmps[31]?.getD undef = .bool (((!u0) || b0)) := hI.has 23 31 rfl (hall ⟨23, .guard⟩ (by simp) rfl)
      rcases Bool.eq_false_or_eq_true (((!u0) || b0)) with hc | hc
      case inl =>
        exact .inr ⟨(wanted_of rfl rfl (gg.trans (by rw [hc]))).trans rfl, Gd.no hc, hB⟩
      have g0 : act.tmps[0]?.getD undef = .pointer (some ⟨B, 0, none⟩) := hI.kept 0 (by kernel_rfl)
      clear hI hall hnot hcl
      refine .inl ⟨(wanted_of rfl rfl (gg.trans (by rw [hc]))).trans rfl, ?_⟩
      clear gg
      unfold Oper.wp
      go_simp
      all_goals first | first | exact ⟨_, rfl, Below.refl _ _, Gd.yes (by first | rfl | exact hc) rfl⟩ | exact ⟨_, rfl, Below.refl _ _, Gd.yes (by first | rfl | exact hc) rfl, hB⟩ | exact ⟨Below.refl _ _, hB⟩ | exact Below.refl _ _
    · simp at hq; subst hq
      have gg : act.tmps[31]?.getD undef = .bool (((!u0) || b0)) := hI.has 23 31 rfl (hall ⟨23, .guard⟩ (by simp) rfl)
      rcases Bool.eq_false_or_eq_true (((!u0) || b0)) with hc | hc
      case inl =>
        exact .inr ⟨(wanted_of rfl rfl (gg.trans (by rw [hc]))).trans rfl, Gd.no hc, hB⟩
      have g32 : act.tmps[32]?.getD undef = .pointer (some ⟨B, 0, none⟩) := Gd.get (hI.has 24 32 rfl (hall ⟨24, .data⟩ (by simp) rfl)) hc
      clear hI hall hnot hcl
      refine .inl ⟨(wanted_of rfl rfl (gg.trans (by rw [hc]))).trans rfl, ?_⟩
      clear gg
      unfold Oper.wp
      go_simp
      all_goals first | first | exact ⟨_, rfl, Below.refl _ _, Gd.yes (by first | rfl | exact hc) rfl⟩ | exact ⟨_, rfl, Below.refl _ _, Gd.yes (by first | rfl | exact hc) rfl, hB⟩ | exact ⟨Below.refl _ _, hB⟩ | exact Below.refl _ _
    · simp at hq; subst hq
      have gg : act.tmps[31]?.getD undef = .bool (((!u0) || b0)) := hI.has 23 31 rfl (hall ⟨23, .guard⟩ (by simp) rfl)
      rcases Bool.eq_false_or_eq_true (((!u0) || b0)) with hc | hc
      case inl =>
        exact .inr ⟨(wanted_of rfl rfl (gg.trans (by rw [hc]))).trans rfl, Gd.no hc, hB⟩
      have g33 : act.tmps[33]?.getD undef = .pointer (some ⟨B, 0, none⟩) := Gd.get (hI.has 25 33 rfl (hall ⟨25, .data⟩ (by simp) rfl)) hc
      clear hI hall hnot hcl
      refine .inl ⟨(wanted_of rfl rfl (gg.trans (by rw [hc]))).trans rfl, ?_⟩
      clear gg
      unfold Oper.wp
      go_simp
      all_goals first | first | exact ⟨_, rfl, Below.refl _ _, Gd.yes (by first | rfl | exact hc) rfl⟩ | exact ⟨_, rfl, Below.refl _ _, Gd.yes (by first | rfl | exact hc) rfl, hB⟩ | exact ⟨Below.refl _ _, hB⟩ | exact Below.refl _ _
    · simp at hq; subst hq
      have gg : act.tmps[31]?.getD undef = .bool (((!u0) || b0)) := hI.has 23 31 rfl (hall ⟨23, .guard⟩ (by simp) rfl)
      rcases Bool.eq_false_or_eq_true (((!u0) || b0)) with hc | hc
      case inl =>
        exact .inr ⟨(wanted_of rfl rfl (gg.trans (by rw [hc]))).trans rfl, Gd.no hc, hB⟩
      have g34 : act.tmps[34]?.getD undef = .pointer (some ⟨B, 4, none⟩) := Gd.get (hI.has 26 34 rfl (hall ⟨26, .data⟩ (by simp) rfl)) hc
      clear hI hall hnot hcl
      refine .inl ⟨(wanted_of rfl rfl (gg.trans (by rw [hc]))).trans rfl, ?_⟩
      clear gg
      unfold Oper.wp
      go_simp
      all_goals first | first | exact ⟨_, rfl, Below.refl _ _, Gd.yes (by first | rfl | exact hc) rfl⟩ | exact ⟨_, rfl, Below.refl _ _, Gd.yes (by first | rfl | exact hc) rfl, hB⟩ | exact ⟨Below.refl _ _, hB⟩ | exact Below.refl _ _
    · simp at hq; subst hq
      have gg : act.tmps[31]?.getD undef = .bool (((!u0) || b0)) := hI.has 23 31 rfl (hall ⟨23, .guard⟩ (by simp) rfl)
      rcases Bool.eq_false_or_eq_true (((!u0) || b0)) with hc | hc
      case inl =>
        exact .inr ⟨(wanted_of rfl rfl (gg.trans (by rw [hc]))).trans rfl, Gd.no hc, hB⟩
      have g1 : act.tmps[1]?.getD undef = .pointer (some ⟨B', 0, none⟩) := hI.kept 1 (by kernel_rfl)
      clear hI hall hnot hcl
      refine .inl ⟨(wanted_of rfl rfl (gg.trans (by rw [hc]))).trans rfl, ?_⟩
      clear gg
      unfold Oper.wp
      go_simp
      all_goals first | first | exact ⟨_, rfl, Below.refl _ _, Gd.yes (by first | rfl | exact hc) rfl⟩ | exact ⟨_, rfl, Below.refl _ _, Gd.yes (by first | rfl | exact hc) rfl, hB⟩ | exact ⟨Below.refl _ _, hB⟩ | exact Below.refl _ _
    · simp at hq; subst hq
      have gg : act.tmps[31]?.getD undef = .bool (((!u0) || b0)) := hI.has 23 31 rfl (hall ⟨23, .guard⟩ (by simp) rfl)
      rcases Bool.eq_false_or_eq_true (((!u0) || b0)) with hc | hc
      case inl =>
        exact .inr ⟨(wanted_of rfl rfl (gg.trans (by rw [hc]))).trans rfl, Gd.no hc, hB⟩
      have g36 : act.tmps[36]?.getD undef = .pointer (some ⟨B', 0, none⟩) := Gd.get (hI.has 28 36 rfl (hall ⟨28, .data⟩ (by simp) rfl)) hc
      clear hI hall hnot hcl
      refine .inl ⟨(wanted_of rfl rfl (gg.trans (by rw [hc]))).trans rfl, ?_⟩
      clear gg
      unfold Oper.wp
      go_simp
      all_goals first | first | exact ⟨_, rfl, Below.refl _ _, Gd.yes (by first | rfl | exact hc) rfl⟩ | exact ⟨_, rfl, Below.refl _ _, Gd.yes (by first | rfl | exact hc) rfl, hB⟩ | exact ⟨Below.refl _ _, hB⟩ | exact Below.refl _ _
    · simp at hq; subst hq
      have gg : act.tmps[31]?.getD undef = .bool (((!u0) || b0)) := hI.has 23 31 rfl (hall ⟨23, .guard⟩ (by simp) rfl)
      rcases Bool.eq_false_or_eq_true (((!u0) || b0)) with hc | hc
      case inl =>
        exact .inr ⟨(wanted_of rfl rfl (gg.trans (by rw [hc]))).trans rfl, Gd.no hc, hB⟩
      have g37 : act.tmps[37]?.getD undef = .pointer (some ⟨B', 0, none⟩) := Gd.get (hI.has 29 37 rfl (hall ⟨29, .data⟩ (by simp) rfl)) hc
      clear hI hall hnot hcl
      refine .inl ⟨(wanted_of rfl rfl (gg.trans (by rw [hc]))).trans rfl, ?_⟩
      clear gg
      unfold Oper.wp
      go_simp
      all_goals first | first | exact ⟨_, rfl, Below.refl _ _, Gd.yes (by first | rfl | exact hc) rfl⟩ | exact ⟨_, rfl, Below.refl _ _, Gd.yes (by first | rfl | exact hc) rfl, hB⟩ | exact ⟨Below.refl _ _, hB⟩ | exact Below.refl _ _
    · simp at hq; subst hq
      have gg : act.tmps[31]?.getD undef = .bool (((!u0) || b0)) := hI.has 23 31 rfl (hall ⟨23, .guard⟩ (by simp) rfl)
      rcases Bool.eq_false_or_eq_true (((!u0) || b0)) with hc | hc
      case inl =>
        exact .inr ⟨(wanted_of rfl rfl (gg.trans (by rw [hc]))).trans rfl, Gd.no hc, hB⟩
      have g38 : act.tmps[38]?.getD undef = .pointer (some ⟨B', 4, none⟩) := Gd.get (hI.has 30 38 rfl (hall ⟨30, .data⟩ (by simp) rfl)) hc
      clear hI hall hnot hcl
      refine .inl ⟨(wanted_of rfl rfl (gg.trans (by rw [hc]))).trans rfl, ?_⟩
      clear gg
      unfold Oper.wp
      go_simp
      all_goals first | first | exact ⟨_, rfl, Below.refl _ _, Gd.yes (by first | rfl | exact hc) rfl⟩ | exact ⟨_, rfl, Below.refl _ _, Gd.yes (by first | rfl | exact hc) rfl, hB⟩ | exact ⟨Below.refl _ _, hB⟩ | exact Below.refl _ _
    · simp at hq; subst hq
      have gg : act.tmps[31]?.getD undef = .bool (((!u0) || b0)) := hI.has 23 31 rfl (hall ⟨23, .guard⟩ (by simp) rfl)
      rcases Bool.eq_false_or_eq_true (((!u0) || b0)) with hc | hc
      case inl =>
        exact .inr ⟨(wanted_of rfl rfl (gg.trans (by rw [hc]))).trans rfl, Gd.no hc, hB⟩
      have g35 : act.tmps[35]?.getD undef = .int .i64 c := Gd.get (hI.has 27 35 rfl (hall ⟨27, .data⟩ (by simp) rfl)) hc
      have g39 : act.tmps[39]?.getD undef = .int .i64 c' := Gd.get (hI.has 31 39 rfl (hall ⟨31, .data⟩ (by simp) rfl)) hc
      clear hI hall hnot hcl
      refine .inl ⟨(wanted_of rfl rfl (gg.trans (by rw [hc]))).trans rfl, ?_⟩
      clear gg
      unfold Oper.wp
      go_simp
      rw [HU1.out]
      first | exact ⟨_, rfl, Below.refl _ _, Gd.yes (by first | rfl | exact hc) rfl⟩ | exact ⟨_, rfl, Below.refl _ _, Gd.yes (by first | rfl | exact hc) rfl, hB⟩
    · simp at hq; subst hq
      have g31 : act.tmps[31]?.getD undef = .bool ((!u0) || b0) := hI.has 23 31 rfl (hall ⟨23, .data⟩ (by simp) rfl)
      have G40 := hI.has 32 40 rfl (hall ⟨32, .data⟩ (by simp) rfl)
      clear hI hall hnot hcl
      refine .inl ⟨wanted_none rfl, ?_⟩
      unfold Oper.wp
      rcases Bool.eq_false_or_eq_true (((!u0) || b0)) with hc | hc
      · rw [hc] at g31
        have g40 := Gd.un G40 hc
        clear G40
        go_simp
        all_goals first | exact ⟨_, rfl, Below.refl _ _, by first | rfl | (rw [hc]; rfl)⟩ | exact ⟨_, rfl, Below.refl _ _, by first | rfl | (rw [hc]; rfl), hB⟩ | exact Below.refl _ _ | exact ⟨Below.refl _ _, by first | rfl | (rw [hc]; rfl), hB⟩ | exact ⟨Below.refl _ _, hB⟩
      · rw [hc] at g31
        have g40 := Gd.get G40 hc
        clear G40
        go_simp
        all_goals first | exact ⟨_, rfl, Below.refl _ _, by first | rfl | (rw [hc]; rfl)⟩ | exact ⟨_, rfl, Below.refl _ _, by first | rfl | (rw [hc]; rfl), hB⟩ | exact Below.refl _ _ | exact ⟨Below.refl _ _, by first | rfl | (rw [hc]; rfl), hB⟩ | exact ⟨Below.refl _ _, hB⟩
    · simp at hq; subst hq
      have g41 : act.tmps[41]?.getD undef = .bool (((!u0) || b0) || b1) := hI.has 33 41 rfl (hall ⟨33, .data⟩ (by simp) rfl)
      clear hI hall hnot hcl
      refine .inl ⟨wanted_none rfl, ?_⟩
      unfold Oper.wp
      go_simp
      all_goals first | first | exact ⟨_, rfl, Below.refl _ _, rfl⟩ | exact ⟨_, rfl, Below.refl _ _, rfl, hB⟩ | exact ⟨Below.refl _ _, hB⟩ | exact Below.refl _ _
    · simp at hq; subst hq
      have gg : act.tmps[42]?.getD undef = .bool ((((!u0) || b0) || b1)) := hI.has 34 42 rfl (hall ⟨34, .guard⟩ (by simp) rfl)
      rcases Bool.eq_false_or_eq_true ((((!u0) || b0) || b1)) with hc | hc
      case inl =>
        exact .inr ⟨(wanted_of rfl rfl (gg.trans (by rw [hc]))).trans rfl, Gd.no hc, hB⟩
      have g0 : act.tmps[0]?.getD undef = .pointer (some ⟨B, 0, none⟩) := hI.kept 0 (by kernel_rfl)
      clear hI hall hnot hcl
      refine .inl ⟨(wanted_of rfl rfl (gg.trans (by rw [hc]))).trans rfl, ?_⟩
      clear gg
      unfold Oper.wp
      go_simp
      all_goals first | first | exact ⟨_, rfl, Below.refl _ _, Gd.yes (by first | rfl | exact hc) rfl⟩ | exact ⟨_, rfl, Below.refl _ _, Gd.yes (by first | rfl | exact hc) rfl, hB⟩ | exact ⟨Below.refl _ _, hB⟩ | exact Below.refl _ _
    · simp at hq; subst hq
      have gg : act.tmps[42]?.getD undef = .bool ((((!u0) || b0) || b1)) := hI.has 34 42 rfl (hall ⟨34, .guard⟩ (by simp) rfl)
      rcases Bool.eq_false_or_eq_true ((((!u0) || b0) || b1)) with hc | hc
      case inl =>
        exact .inr ⟨(wanted_of rfl rfl (gg.trans (by rw [hc]))).trans rfl, Gd.no hc, hB⟩
      have g43 : act.tmps[43]?.getD undef = .pointer (some ⟨B, 0, none⟩) := Gd.get (hI.has 35 43 rfl (hall ⟨35, .data⟩ (by simp) rfl)) hc
      clear hI hall hnot hcl
      refine .inl ⟨(wanted_of rfl rfl (gg.trans (by rw [hc]))).trans rfl, ?_⟩
      clear gg
      unfold Oper.wp
      go_simp
      all_goals first | first | exact ⟨_, rfl, Below.refl _ _, Gd.yes (by first | rfl | exact hc) rfl⟩ | exact ⟨_, rfl, Below.refl _ _, Gd.yes (by first | rfl | exact hc) rfl, hB⟩ | exact ⟨Below.refl _ _, hB⟩ | exact Below.refl _ _
    · simp at hq; subst hq
      have gg : act.tmps[42]?.getD undef = .bool ((((!u0) || b0) || b1)) := hI.has 34 42 rfl (hall ⟨34, .guard⟩ (by simp) rfl)
      rcases Bool.eq_false_or_eq_true ((((!u0) || b0) || b1)) with hc | hc
      case inl =>
        exact .inr ⟨(wanted_of rfl rfl (gg.trans (by rw [hc]))).trans rfl, Gd.no hc, hB⟩
      have g44 : act.tmps[44]?.getD undef = .pointer (some ⟨B, 0, none⟩) := Gd.get (hI.has 36 44 rfl (hall ⟨36, .data⟩ (by simp) rfl)) hc
      clear hI hall hnot hcl
      refine .inl ⟨(wanted_of rfl rfl (gg.trans (by rw [hc]))).trans rfl, ?_⟩
      clear gg
      unfold Oper.wp
      go_simp
      all_goals first | first | exact ⟨_, rfl, Below.refl _ _, Gd.yes (by first | rfl | exact hc) rfl⟩ | exact ⟨_, rfl, Below.refl _ _, Gd.yes (by first | rfl | exact hc) rfl, hB⟩ | exact ⟨Below.refl _ _, hB⟩ | exact Below.refl _ _
    · simp at hq; subst hq
      have gg : act.tmps[42]?.getD undef = .bool ((((!u0) || b0) || b1)) := hI.has 34 42 rfl (hall ⟨34, .guard⟩ (by simp) rfl)
      rcases Bool.eq_false_or_eq_true ((((!u0) || b0) || b1)) with hc | hc
      case inl =>
        exact .inr ⟨(wanted_of rfl rfl (gg.trans (by rw [hc]))).trans rfl, Gd.no hc, hB⟩
      have g45 : act.tmps[45]?.getD undef = .pointer (some ⟨B, 5, none⟩) := Gd.get (hI.has 37 45 rfl (hall ⟨37, .data⟩ (by simp) rfl)) hc
      clear hI hall hnot hcl
      refine .inl ⟨(wanted_of rfl rfl (gg.trans (by rw [hc]))).trans rfl, ?_⟩
      clear gg
      unfold Oper.wp
      go_simp
      all_goals first | first | exact ⟨_, rfl, Below.refl _ _, Gd.yes (by first | rfl | exact hc) rfl⟩ | exact ⟨_, rfl, Below.refl _ _, Gd.yes (by first | rfl | exact hc) rfl, hB⟩ | exact ⟨Below.refl _ _, hB⟩ | exact Below.refl _ _
    · simp at hq; subst hq
      have gg : act.tmps[42]?.getD undef = .bool ((((!u0) || b0) || b1)) := hI.has 34 42 rfl (hall ⟨34, .guard⟩ (by simp) rfl)
      rcases Bool.eq_false_or_eq_true ((((!u0) || b0) || b1)) with hc | hc
      case inl =>
        exact .inr ⟨(wanted_of rfl rfl (gg.trans (by rw [hc]))).trans rfl, Gd.no hc, hB⟩
      have g1 : act.tmps[1]?.getD undef = .pointer (some ⟨B', 0, none⟩) := hI.kept 1 (by kernel_rfl)
      clear hI hall hnot hcl
      refine .inl ⟨(wanted_of rfl rfl (gg.trans (by rw [hc]))).trans rfl, ?_⟩
      clear gg
      unfold Oper.wp
      go_simp
      all_goals first | first | exact ⟨_, rfl, Below.refl _ _, Gd.yes (by first | rfl | exact hc) rfl⟩ | exact ⟨_, rfl, Below.refl _ _, Gd.yes (by first | rfl | exact hc) rfl, hB⟩ | exact ⟨Below.refl _ _, hB⟩ | exact Below.refl _ _
    · simp at hq; subst hq
      have gg : act.tmps[42]?.getD undef = .bool ((((!u0) || b0) || b1)) := hI.has 34 42 rfl (hall ⟨34, .guard⟩ (by simp) rfl)
      rcases Bool.eq_false_or_eq_true ((((!u0) || b0) || b1)) with hc | hc
      case inl =>
        exact .inr ⟨(wanted_of rfl rfl (gg.trans (by rw [hc]))).trans rfl, Gd.no hc, hB⟩
      have g47 : act.tmps[47]?.getD undef = .pointer (some ⟨B', 0, none⟩) := Gd.get (hI.has 39 47 rfl (hall ⟨39, .data⟩ (by simp) rfl)) hc
      clear hI hall hnot hcl
      refine .inl ⟨(wanted_of rfl rfl (gg.trans (by rw [hc]))).trans rfl, ?_⟩
      clear gg
      unfold Oper.wp
      go_simp
      all_goals first | first | exact ⟨_, rfl, Below.refl _ _, Gd.yes (by first | rfl | exact hc) rfl⟩ | exact ⟨_, rfl, Below.refl _ _, Gd.yes (by first | rfl | exact hc) rfl, hB⟩ | exact ⟨Below.refl _ _, hB⟩ | exact Below.refl _ _
    · simp at hq; subst hq
      have gg : act.tmps[42]?.getD undef = .bool ((((!u0) || b0) || b1)) := hI.has 34 42 rfl (hall ⟨34, .guard⟩ (by simp) rfl)
      rcases Bool.eq_false_or_eq_true ((((!u0) || b0) || b1)) with hc | hc
      case inl =>
        exact .inr ⟨(wanted_of rfl rfl (gg.trans (by rw [hc]))).trans rfl, Gd.no hc, hB⟩
      have g48 : act.tmps[48]?.getD undef = .pointer (some ⟨B', 0, none⟩) := Gd.get (hI.has 40 48 rfl (hall ⟨40, .data⟩ (by simp) rfl)) hc
      clear hI hall hnot hcl
      refine .inl ⟨(wanted_of rfl rfl (gg.trans (by rw [hc]))).trans rfl, ?_⟩
      clear gg
      unfold Oper.wp
      go_simp
      all_goals first | first | exact ⟨_, rfl, Below.refl _ _, Gd.yes (by first | rfl | exact hc) rfl⟩ | exact ⟨_, rfl, Below.refl _ _, Gd.yes (by first | rfl | exact hc) rfl, hB⟩ | exact ⟨Below.refl _ _, hB⟩ | exact Below.refl _ _
    · simp at hq; subst hq
      have gg : act.tmps[42]?.getD undef = .bool ((((!u0) || b0) || b1)) := hI.has 34 42 rfl (hall ⟨34, .guard⟩ (by simp) rfl)
      rcases Bool.eq_false_or_eq_true ((((!u0) || b0) || b1)) with hc | hc
      case inl =>
        exact .inr ⟨(wanted_of rfl rfl (gg.trans (by rw [hc]))).trans rfl, Gd.no hc, hB⟩
      have g49 : act.tmps[49]?.getD undef = .pointer (some ⟨B', 5, none⟩) := Gd.get (hI.has 41 49 rfl (hall ⟨41, .data⟩ (by simp) rfl)) hc
      clear hI hall hnot hcl
      refine .inl ⟨(wanted_of rfl rfl (gg.trans (by rw [hc]))).trans rfl, ?_⟩
      clear gg
      unfold Oper.wp
      go_simp
      all_goals first | first | exact ⟨_, rfl, Below.refl _ _, Gd.yes (by first | rfl | exact hc) rfl⟩ | exact ⟨_, rfl, Below.refl _ _, Gd.yes (by first | rfl | exact hc) rfl, hB⟩ | exact ⟨Below.refl _ _, hB⟩ | exact Below.refl _ _
    · simp at hq; subst hq
      have gg : act.tmps[42]?.getD undef = .bool ((((!u0) || b0) || b1)) := hI.has 34 42 rfl (hall ⟨34, .guard⟩ (by simp) rfl)
      rcases Bool.eq_false_or_eq_true ((((!u0) || b0) || b1)) with hc | hc
      case inl =>
        exact .inr ⟨(wanted_of rfl rfl (gg.trans (by rw [hc]))).trans rfl, Gd.no hc, hB⟩
      have g46 : act.tmps[46]?.getD undef = .float .f32 hub := Gd.get (hI.has 38 46 rfl (hall ⟨38, .data⟩ (by simp) rfl)) hc
      have g50 : act.tmps[50]?.getD undef = .float .f32 hub' := Gd.get (hI.has 42 50 rfl (hall ⟨42, .data⟩ (by simp) rfl)) hc
      clear hI hall hnot hcl
      refine .inl ⟨(wanted_of rfl rfl (gg.trans (by rw [hc]))).trans rfl, ?_⟩
      clear gg
      unfold Oper.wp
      go_simp
      refine (Q0 _).out.mono ?_
      rintro e w4 ⟨rfl, rfl⟩
      first | exact ⟨_, rfl, Below.refl _ _, Gd.yes (by first | rfl | exact hc) rfl⟩ | exact ⟨_, rfl, Below.refl _ _, Gd.yes (by first | rfl | exact hc) rfl, hB⟩
    · simp at hq; subst hq
      have gg : act.tmps[42]?.getD undef = .bool ((((!u0) || b0) || b1)) := hI.has 34 42 rfl (hall ⟨34, .guard⟩ (by simp) rfl)
      rcases Bool.eq_false_or_eq_true ((((!u0) || b0) || b1)) with hc | hc
      case inl =>
        exact .inr ⟨(wanted_of rfl rfl (gg.trans (by rw [hc]))).trans rfl, Gd.no hc, hB⟩
      have g51 : act.tmps[51]?.getD undef = .bool t0 := Gd.get (hI.has 43 51 rfl (hall ⟨43, .data⟩ (by simp) rfl)) hc
      clear hI hall hnot hcl
      refine .inl ⟨(wanted_of rfl rfl (gg.trans (by rw [hc]))).trans rfl, ?_⟩
      clear gg
      unfold Oper.wp
      go_simp
      all_goals first | first | exact ⟨_, rfl, Below.refl _ _, Gd.yes (by first | rfl | exact hc) rfl⟩ | exact ⟨_, rfl, Below.refl _ _, Gd.yes (by first | rfl | exact hc) rfl, hB⟩ | exact ⟨Below.refl _ _, hB⟩ | exact Below.refl _ _
    · simp at hq; subst hq
      have g42 : act.tmps[42]?.getD undef = .bool (((!u0) || b0) || b1) := hI.has 34 42 rfl (hall ⟨34, .data⟩ (by simp) rfl)
      have G52 := hI.has 44 52 rfl (hall ⟨44, .data⟩ (by simp) rfl)
      clear hI hall hnot hcl
      refine .inl ⟨wanted_none rfl, ?_⟩
      unfold Oper.wp
      rcases Bool.eq_false_or_eq_true ((((!u0) || b0) || b1)) with hc | hc
      · rw [hc] at g42
        have g52 := Gd.un G52 hc
        clear G52
        go_simp
        all_goals first | exact ⟨_, rfl, Below.refl _ _, by first | rfl | (rw [hc]; rfl)⟩ | exact ⟨_, rfl, Below.refl _ _, by first | rfl | (rw [hc]; rfl), hB⟩ | exact Below.refl _ _ | exact ⟨Below.refl _ _, by first | rfl | (rw [hc]; rfl), hB⟩ | exact ⟨Below.refl _ _, hB⟩
      · rw [hc] at g42
        have g52 := Gd.get G52 hc
        clear G52
        go_simp
        all_goals first | exact ⟨_, rfl, Below.refl _ _, by first | rfl | (rw [hc]; rfl)⟩ | exact ⟨_, rfl, Below.refl _ _, by first | rfl | (rw [hc]; rfl), hB⟩ | exact Below.refl _ _ | exact ⟨Below.refl _ _, by first | rfl | (rw [hc]; rfl), hB⟩ | exact ⟨Below.refl _ _, hB⟩
    · simp at hq; subst hq
      have g53 : act.tmps[53]?.getD undef = .bool ((((!u0) || b0) || b1) || ((!t0))) := hI.has 45 53 rfl (hall ⟨45, .data⟩ (by simp) rfl)
      clear hI hall hnot hcl
      refine .inl ⟨wanted_none rfl, ?_⟩
      unfold Oper.wp
      go_simp
      all_goals first | first | exact ⟨_, rfl, Below.refl _ _, rfl⟩ | exact ⟨_, rfl, Below.refl _ _, rfl, hB⟩ | exact ⟨Below.refl _ _, hB⟩ | exact Below.refl _ _
    · simp at hq; subst hq
      have gg : act.tmps[54]?.getD undef = .bool (((((!u0) || b0) || b1) || ((!t0)))) := hI.has 46 54 rfl (hall ⟨46, .guard⟩ (by simp) rfl)
      rcases Bool.eq_false_or_eq_true (((((!u0) || b0) || b1) || ((!t0)))) with hc | hc
      case inl =>
        exact .inr ⟨(wanted_of rfl rfl (gg.trans (by rw [hc]))).trans rfl, Gd.no hc, hB⟩
      have g0 : act.tmps[0]?.getD undef = .pointer (some ⟨B, 0, none⟩) := hI.kept 0 (by kernel_rfl)
      clear hI hall hnot hcl
      refine .inl ⟨(wanted_of rfl rfl (gg.trans (by rw [hc]))).trans rfl, ?_⟩
      clear gg
      unfold Oper.wp
      go_simp
      all_goals first | first | exact ⟨_, rfl, Below.refl _ _, Gd.yes (by first | rfl | exact hc) rfl⟩ | exact ⟨_, rfl, Below.refl _ _, Gd.yes (by first | rfl | exact hc) rfl, hB⟩ | exact ⟨Below.refl _ _, hB⟩ | exact Below.refl _ _
    · simp at hq; subst hq
      have gg : act.tmps[54]?.getD undef = .bool (((((!u0) || b0) || b1) || ((!t0)))) := hI.has 46 54 rfl (hall ⟨46, .guard⟩ (by simp) rfl)
      rcases Bool.eq_false_or_eq_true (((((!u0) || b0) || b1) || ((!t0)))) with hc | hc
      case inl =>
        exact .inr ⟨(wanted_of rfl rfl (gg.trans (by rw [hc]))).trans rfl, Gd.no hc, hB⟩
      have g55 : act.tmps[55]?.getD undef = .pointer (some ⟨B, 0, none⟩) := Gd.get (hI.has 47 55 rfl (hall ⟨47, .data⟩ (by simp) rfl)) hc
      clear hI hall hnot hcl
      refine .inl ⟨(wanted_of rfl rfl (gg.trans (by rw [hc]))).trans rfl, ?_⟩
      clear gg
      unfold Oper.wp
      go_simp
      all_goals first | first | exact ⟨_, rfl, Below.refl _ _, Gd.yes (by first | rfl | exact hc) rfl⟩ | exact ⟨_, rfl, Below.refl _ _, Gd.yes (by first | rfl | exact hc) rfl, hB⟩ | exact ⟨Below.refl _ _, hB⟩ | exact Below.refl _ _
    · simp at hq; subst hq
      have gg : act.tmps[54]?.getD undef = .bool (((((!u0) || b0) || b1) || ((!t0)))) := hI.has 46 54 rfl (hall ⟨46, .guard⟩ (by simp) rfl)
      rcases Bool.eq_false_or_eq_true (((((!u0) || b0) || b1) || ((!t0)))) with hc | hc
      case inl =>
        exact .inr ⟨(wanted_of rfl rfl (gg.trans (by rw [hc]))).trans rfl, Gd.no hc, hB⟩
      have g56 : act.tmps[56]?.getD undef = .pointer (some ⟨B, 0, none⟩) := Gd.get (hI.has 48 56 rfl (hall ⟨48, .data⟩ (by simp) rfl)) hc
      clear hI hall hnot hcl
      refine .inl ⟨(wanted_of rfl rfl (gg.trans (by rw [hc]))).trans rfl, ?_⟩
      clear gg
      unfold Oper.wp
      go_simp
      all_goals first | first | exact ⟨_, rfl, Below.refl _ _, Gd.yes (by first | rfl | exact hc) rfl⟩ | exact ⟨_, rfl, Below.refl _ _, Gd.yes (by first | rfl | exact hc) rfl, hB⟩ | exact ⟨Below.refl _ _, hB⟩ | exact Below.refl _ _
    · simp at hq; subst hq
      have gg : act.tmps[54]?.getD undef = .bool (((((!u0) || b0) || b1) || ((!t0)))) := hI.has 46 54 rfl (hall ⟨46, .guard⟩ (by simp) rfl)
      rcases Bool.eq_false_or_eq_true (((((!u0) || b0) || b1) || ((!t0)))) with hc | hc
      case inl =>
        exact .inr ⟨(wanted_of rfl rfl (gg.trans (by rw [hc]))).trans rfl, Gd.no hc, hB⟩
      have g57 : act.tmps[57]?.getD undef = .pointer (some ⟨B, 6, none⟩) := Gd.get (hI.has 49 57 rfl (hall ⟨49, .data⟩ (by simp) rfl)) hc
      clear hI hall hnot hcl
      refine .inl ⟨(wanted_of rfl rfl (gg.trans (by rw [hc]))).trans rfl, ?_⟩
      clear gg
      unfold Oper.wp
      go_simp
      all_goals first | first | exact ⟨_, rfl, Below.refl _ _, Gd.yes (by first | rfl | exact hc) rfl⟩ | exact ⟨_, rfl, Below.refl _ _, Gd.yes (by first | rfl | exact hc) rfl, hB⟩ | exact ⟨Below.refl _ _, hB⟩ | exact Below.refl _ _
    · simp at hq; subst hq
      have gg : act.tmps[54]?.getD undef = .bool (((((!u0) || b0) || b1) || ((!t0)))) := hI.has 46 54 rfl (hall ⟨46, .guard⟩ (by simp) rfl)
      rcases Bool.eq_false_or_eq_true (((((!u0) || b0) || b1) || ((!t0)))) with hc | hc
      case inl =>
        exact .inr ⟨(wanted_of rfl rfl (gg.trans (by rw [hc]))).trans rfl, Gd.no hc, hB⟩
      have g1 : act.tmps[1]?.getD undef = .pointer (some ⟨B', 0, none⟩) := hI.kept 1 (by kernel_rfl)
      clear hI hall hnot hcl
      refine .inl ⟨(wanted_of rfl rfl (gg.trans (by rw [hc]))).trans rfl, ?_⟩
      clear gg
      unfold Oper.wp
      go_simp
      all_goals first | first | exact ⟨_, rfl, Below.refl _ _, Gd.yes (by first | rfl | exact hc) rfl⟩ | exact ⟨_, rfl, Below.refl _ _, Gd.yes (by first | rfl | exact hc) rfl, hB⟩ | exact ⟨Below.refl _ _, hB⟩ | exact Below.refl _ _
    · simp at hq; subst hq
      have gg : act.tmps[54]?.getD undef = .bool (((((!u0) || b0) || b1) || ((!t0)))) := hI.has 46 54 rfl (hall ⟨46, .guard⟩ (by simp) rfl)
      rcases Bool.eq_false_or_eq_true (((((!u0) || b0) || b1) || ((!t0)))) with hc | hc
      case inl =>
        exact .inr ⟨(wanted_of rfl rfl (gg.trans (by rw [hc]))).trans rfl, Gd.no hc, hB⟩
      have g59 : act.tmps[59]?.getD undef = .pointer (some ⟨B', 0, none⟩) := Gd.get (hI.has 51 59 rfl (hall ⟨51, .data⟩ (by simp) rfl)) hc
      clear hI hall hnot hcl
      refine .inl ⟨(wanted_of rfl rfl (gg.trans (by rw [hc]))).trans rfl, ?_⟩
      clear gg
      unfold Oper.wp
      go_simp
      all_goals first | first | exact ⟨_, rfl, Below.refl _ _, Gd.yes (by first | rfl | exact hc) rfl⟩ | exact ⟨_, rfl, Below.refl _ _, Gd.yes (by first | rfl | exact hc) rfl, hB⟩ | exact ⟨Below.refl _ _, hB⟩ | exact Below.refl _ _
    · simp at hq; subst hq
      have gg : act.tmps[54]?.getD undef = .bool (((((!u0) || b0) || b1) || ((!t0)))) := hI.has 46 54 rfl (hall ⟨46, .guard⟩ (by simp) rfl)
      rcases Bool.eq_false_or_eq_true (((((!u0) || b0) || b1) || ((!t0)))) with hc | hc
      case inl =>
        exact .inr ⟨(wanted_of rfl rfl (gg.trans (by rw [hc]))).trans rfl, Gd.no hc, hB⟩
      have g60 : act.tmps[60]?.getD undef = .pointer (some ⟨B', 0, none⟩) := Gd.get (hI.has 52 60 rfl (hall ⟨52, .data⟩ (by simp) rfl)) hc
      clear hI hall hnot hcl
      refine .inl ⟨(wanted_of rfl rfl (gg.trans (by rw [hc]))).trans rfl, ?_⟩
      clear gg
      unfold Oper.wp
      go_simp
      all_goals first | first | exact ⟨_, rfl, Below.refl _ _, Gd.yes (by first | rfl | exact hc) rfl⟩ | exact ⟨_, rfl, Below.refl _ _, Gd.yes (by first | rfl | exact hc) rfl, hB⟩ | exact ⟨Below.refl _ _, hB⟩ | exact Below.refl _ _
    · simp at hq; subst hq
      have gg : act.tmps[54]?.getD undef = .bool (((((!u0) || b0) || b1) || ((!t0)))) := hI.has 46 54 rfl (hall ⟨46, .guard⟩ (by simp) rfl)
      rcases Bool.eq_false_or_eq_true (((((!u0) || b0) || b1) || ((!t0)))) with hc | hc
      case inl =>
        exact .inr ⟨(wanted_of rfl rfl (gg.trans (by rw [hc]))).trans rfl, Gd.no hc, hB⟩
      have g61 : act.tmps[61]?.getD undef = .pointer (some ⟨B', 6, none⟩) := Gd.get (hI.has 53 61 rfl (hall ⟨53, .data⟩ (by simp) rfl)) hc
      clear hI hall hnot hcl
      refine .inl ⟨(wanted_of rfl rfl (gg.trans (by rw [hc]))).trans rfl, ?_⟩
      clear gg
      unfold Oper.wp
      go_simp
      all_goals first | first | exact ⟨_, rfl, Below.refl _ _, Gd.yes (by first | rfl | exact hc) rfl⟩ | exact ⟨_, rfl, Below.refl _ _, Gd.yes (by first | rfl | exact hc) rfl, hB⟩ | exact ⟨Below.refl _ _, hB⟩ | exact Below.refl _ _
    · simp at hq; subst hq
      have gg : act.tmps[54]?.getD undef = .bool (((((!u0) || b0) || b1) || ((!t0)))) := hI.has 46 54 rfl (hall ⟨46, .guard⟩ (by simp) rfl)
      rcases Bool.eq_false_or_eq_true (((((!u0) || b0) || b1) || ((!t0)))) with hc | hc
      case inl =>
        exact .inr ⟨(wanted_of rfl rfl (gg.trans (by rw [hc]))).trans rfl, Gd.no hc, hB⟩
      have g58 : act.tmps[58]?.getD undef = .float .f32 tip := Gd.get (hI.has 50 58 rfl (hall ⟨50, .data⟩ (by simp) rfl)) hc
      have g62 : act.tmps[62]?.getD undef = .float .f32 tip' := Gd.get (hI.has 54 62 rfl (hall ⟨54, .data⟩ (by simp) rfl)) hc
      clear hI hall hnot hcl
      refine .inl ⟨(wanted_of rfl rfl (gg.trans (by rw [hc]))).trans rfl, ?_⟩
      clear gg
      unfold Oper.wp
      go_simp
      refine (Q1 _).out.mono ?_
      rintro e w4 ⟨rfl, rfl⟩
      first | exact ⟨_, rfl, Below.refl _ _, Gd.yes (by first | rfl | exact hc) rfl⟩ | exact ⟨_, rfl, Below.refl _ _, Gd.yes (by first | rfl | exact hc) rfl, hB⟩
    · simp at hq; subst hq
      have gg : act.tmps[54]?.getD undef = .bool (((((!u0) || b0) || b1) || ((!t0)))) := hI.has 46 54 rfl (hall ⟨46, .guard⟩ (by simp) rfl)
      rcases Bool.eq_false_or_eq_true (((((!u0) || b0) || b1) || ((!t0)))) with hc | hc
      case inl =>
        exact .inr ⟨(wanted_of rfl rfl (gg.trans (by rw [hc]))).trans rfl, Gd.no hc, hB⟩
      have g63 : act.tmps[63]?.getD undef = .bool t1 := Gd.get (hI.has 55 63 rfl (hall ⟨55, .data⟩ (by simp) rfl)) hc
      clear hI hall hnot hcl
      refine .inl ⟨(wanted_of rfl rfl (gg.trans (by rw [hc]))).trans rfl, ?_⟩
      clear gg
      unfold Oper.wp
      go_simp
      all_goals first | first | exact ⟨_, rfl, Below.refl _ _, Gd.yes (by first | rfl | exact hc) rfl⟩ | exact ⟨_, rfl, Below.refl _ _, Gd.yes (by first | rfl | exact hc) rfl, hB⟩ | exact ⟨Below.refl _ _, hB⟩ | exact Below.refl _ _
    · simp at hq; subst hq
      have g54 : act.tmps[54]?.getD undef = .bool ((((!u0) || b0) || b1) || ((!t0))) := hI.has 46 54 rfl (hall ⟨46, .data⟩ (by simp) rfl)
      have G64 := hI.has 56 64 rfl (hall ⟨56, .data⟩ (by simp) rfl)
      clear hI hall hnot hcl
      refine .inl ⟨wanted_none rfl, ?_⟩
      unfold Oper.wp
      rcases Bool.eq_false_or_eq_true (((((!u0) || b0) || b1) || ((!t0)))) with hc | hc
      · rw [hc] at g54
        have g64 := Gd.un G64 hc
        clear G64
        go_simp
        all_goals first | exact ⟨_, rfl, Below.refl _ _, by first | rfl | (rw [hc]; rfl)⟩ | exact ⟨_, rfl, Below.refl _ _, by first | rfl | (rw [hc]; rfl), hB⟩ | exact Below.refl _ _ | exact ⟨Below.refl _ _, by first | rfl | (rw [hc]; rfl), hB⟩ | exact ⟨Below.refl _ _, hB⟩
      · rw [hc] at g54
        have g64 := Gd.get G64 hc
        clear G64
        go_simp
        all_goals first | exact ⟨_, rfl, Below.refl _ _, by first | rfl | (rw [hc]; rfl)⟩ | exact ⟨_, rfl, Below.refl _ _, by first | rfl | (rw [hc]; rfl), hB⟩ | exact Below.refl _ _ | exact ⟨Below.refl _ _, by first | rfl | (rw [hc]; rfl), hB⟩ | exact ⟨Below.refl _ _, hB⟩
    · simp at hq
  case hend =>
    intro listed act w3 hI hall
    have hB := hI.cls
    obtain ⟨k0, k1, k2, k3, k4, k5, k6⟩ := (K1.out.below hB).seven
    obtain ⟨l0, l1, l2, l3, l4, l5, l6⟩ := (K2.out.below hB).seven
    have g65 : act.tmps[65]?.getD undef = .bool (((((!u0) || b0) || b1) || ((!t0))) || ((!t1))) := hI.has 57 65 rfl (hall 57 (by decide))
    have g0 := hI.kept 0 (by kernel_rfl)
    conv at g0 => rhs; whnf
    have g1 := hI.kept 1 (by kernel_rfl)
    conv at g1 => rhs; whnf
    have g2 : act.tmps[2]?.getD undef = undef := hI.kept 2 (by kernel_rfl)
    have g3 : act.tmps[3]?.getD undef = undef := hI.kept 3 (by kernel_rfl)
    have g4 := hI.kept 4 (by kernel_rfl)
    conv at g4 => rhs; whnf
    have g5 : act.tmps[5]?.getD undef = undef := hI.kept 5 (by kernel_rfl)
    have g6 : act.tmps[6]?.getD undef = undef := hI.kept 6 (by kernel_rfl)
    have g7 : act.tmps[7]?.getD undef = undef := hI.kept 7 (by kernel_rfl)
    have g66 : act.tmps[66]?.getD undef = undef := hI.kept 66 (by kernel_rfl)
    have g67 : act.tmps[67]?.getD undef = undef := hI.kept 67 (by kernel_rfl)
    have g68 : act.tmps[68]?.getD undef = undef := hI.kept 68 (by kernel_rfl)
    have g69 : act.tmps[69]?.getD undef = undef := hI.kept 69 (by kernel_rfl)
    have g70 : act.tmps[70]?.getD undef = undef := hI.kept 70 (by kernel_rfl)
    have g71 : act.tmps[71]?.getD undef = undef := hI.kept 71 (by kernel_rfl)
    have g72 : act.tmps[72]?.getD undef = undef := hI.kept 72 (by kernel_rfl)
    have g73 : act.tmps[73]?.getD undef = undef := hI.kept 73 (by kernel_rfl)
    have g74 : act.tmps[74]?.getD undef = undef := hI.kept 74 (by kernel_rfl)
    have g75 : act.tmps[75]?.getD undef = undef := hI.kept 75 (by kernel_rfl)
    have g76 : act.tmps[76]?.getD undef = undef := hI.kept 76 (by kernel_rfl)
    have g77 : act.tmps[77]?.getD undef = undef := hI.kept 77 (by kernel_rfl)
    have g78 : act.tmps[78]?.getD undef = undef := hI.kept 78 (by kernel_rfl)
    have g79 : act.tmps[79]?.getD undef = undef := hI.kept 79 (by kernel_rfl)
    have g80 : act.tmps[80]?.getD undef = undef := hI.kept 80 (by kernel_rfl)
    have g81 : act.tmps[81]?.getD undef = undef := hI.kept 81 (by kernel_rfl)
    have g82 : act.tmps[82]?.getD undef = undef := hI.kept 82 (by kernel_rfl)
    have g83 : act.tmps[83]?.getD undef = undef := hI.kept 83 (by kernel_rfl)
    have g84 : act.tmps[84]?.getD undef = undef := hI.kept 84 (by kernel_rfl)
    have g85 : act.tmps[85]?.getD undef = undef := hI.kept 85 (by kernel_rfl)
    have g86 : act.tmps[86]?.getD undef = undef := hI.kept 86 (by kernel_rfl)
    have g87 : act.tmps[87]?.getD undef = undef := hI.kept 87 (by kernel_rfl)
    have g88 : act.tmps[88]?.getD undef = undef := hI.kept 88 (by kernel_rfl)
    have g89 : act.tmps[89]?.getD undef = undef := hI.kept 89 (by kernel_rfl)
    have g90 : act.tmps[90]?.getD undef = undef := hI.kept 90 (by kernel_rfl)
    have g91 : act.tmps[91]?.getD undef = undef := hI.kept 91 (by kernel_rfl)
    have g92 : act.tmps[92]?.getD undef = undef := hI.kept 92 (by kernel_rfl)
    have g93 : act.tmps[93]?.getD undef = undef := hI.kept 93 (by kernel_rfl)
    have g94 : act.tmps[94]?.getD undef = undef := hI.kept 94 (by kernel_rfl)
    have g95 : act.tmps[95]?.getD undef = undef := hI.kept 95 (by kernel_rfl)
    have g96 : act.tmps[96]?.getD undef = undef := hI.kept 96 (by kernel_rfl)
    have g97 : act.tmps[97]?.getD undef = undef := hI.kept 97 (by kernel_rfl)
    have g98 : act.tmps[98]?.getD undef = undef := hI.kept 98 (by kernel_rfl)
    have g99 : act.tmps[99]?.getD undef = undef := hI.kept 99 (by kernel_rfl)
    have g100 : act.tmps[100]?.getD undef = undef := hI.kept 100 (by kernel_rfl)
    have g101 : act.tmps[101]?.getD undef = undef := hI.kept 101 (by kernel_rfl)
    have g102 : act.tmps[102]?.getD undef = undef := hI.kept 102 (by kernel_rfl)
    have g103 : act.tmps[103]?.getD undef = undef := hI.kept 103 (by kernel_rfl)
    have g104 : act.tmps[104]?.getD undef = undef := hI.kept 104 (by kernel_rfl)
    have g105 : act.tmps[105]?.getD undef = undef := hI.kept 105 (by kernel_rfl)
    have g106 : act.tmps[106]?.getD undef = undef := hI.kept 106 (by kernel_rfl)
    have g107 : act.tmps[107]?.getD undef = undef := hI.kept 107 (by kernel_rfl)
    have g108 : act.tmps[108]?.getD undef = undef := hI.kept 108 (by kernel_rfl)
    have g109 : act.tmps[109]?.getD undef = undef := hI.kept 109 (by kernel_rfl)
    have g110 : act.tmps[110]?.getD undef = undef := hI.kept 110 (by kernel_rfl)
    have hsz : act.tmps.size = 111 := hI.size.trans (by kernel_rfl)
    have hd := hI.defers
    have hB := hI.cls
    clear hI hall
    obtain ⟨tt, dd⟩ := act
    simp only at g0 g1 g2 g3 g4 g5 g6 g7 g65 g66 g67 g68 g69 g70 g71 g72 g73 g74 g75 g76 g77 g78 g79 g80 g81 g82 g83 g84 g85 g86 g87 g88 g89 g90 g91 g92 g93 g94 g95 g96 g97 g98 g99 g100 g101 g102 g103 g104 g105 g106 g107 g108 g109 g110 hsz hd
    subst hd
    have hl : tt = #[tt[0]?.getD undef, tt[1]?.getD undef, tt[2]?.getD undef, tt[3]?.getD undef, tt[4]?.getD undef, tt[5]?.getD undef, tt[6]?.getD undef, tt[7]?.getD undef, tt[8]?.getD undef, tt[9]?.getD undef, tt[10]?.getD undef, tt[11]?.getD undef, tt[12]?.getD undef, tt[13]?.getD undef, tt[14]?.getD undef, tt[15]?.getD undef, tt[16]?.getD undef, tt[17]?.getD undef, tt[18]?.getD undef, tt[19]?.getD undef, tt[20]?.getD undef, tt[21]?.getD undef, tt[22]?.getD undef, tt[23]?.getD undef, tt[24]?.getD undef, tt[25]?.getD undef, tt[26]?.getD undef, tt[27]?.getD undef, tt[28]?.getD undef, tt[29]?.getD undef, tt[30]?.getD undef, tt[31]?.getD undef, tt[32]?.getD undef, tt[33]?.getD undef, tt[34]?.getD undef, tt[35]?.getD undef, tt[36]?.getD undef, tt[37]?.getD undef, tt[38]?.getD undef, tt[39]?.getD undef, tt[40]?.getD undef, tt[41]?.getD undef, tt[42]?.getD undef, tt[43]?.getD undef, tt[44]?.getD undef, tt[45]?.getD undef, tt[46]?.getD undef, tt[47]?.getD undef, tt[48]?.getD undef, tt[49]?.getD undef, tt[50]?.getD undef, tt[51]?.getD undef, tt[52]?.getD undef, tt[53]?.getD undef, tt[54]?.getD undef, tt[55]?.getD undef, tt[56]?.getD undef, tt[57]?.getD undef, tt[58]?.getD undef, tt[59]?.getD undef, tt[60]?.getD undef, tt[61]?.getD undef, tt[62]?.getD undef, tt[63]?.getD undef, tt[64]?.getD undef, tt[65]?.getD undef, tt[66]?.getD undef, tt[67]?.getD undef, tt[68]?.getD undef, tt[69]?.getD undef, tt[70]?.getD undef, tt[71]?.getD undef, tt[72]?.getD undef, tt[73]?.getD undef, tt[74]?.getD undef, tt[75]?.getD undef, tt[76]?.getD undef, tt[77]?.getD undef, tt[78]?.getD undef, tt[79]?.getD undef, tt[80]?.getD undef, tt[81]?.getD undef, tt[82]?.getD undef, tt[83]?.getD undef, tt[84]?.getD undef, tt[85]?.getD undef, tt[86]?.getD undef, tt[87]?.getD undef, tt[88]?.getD undef, tt[89]?.getD undef, tt[90]?.getD undef, tt[91]?.getD undef, tt[92]?.getD undef, tt[93]?.getD undef, tt[94]?.getD undef, tt[95]?.getD undef, tt[96]?.getD undef, tt[97]?.getD undef, tt[98]?.getD undef, tt[99]?.getD undef, tt[100]?.getD undef, tt[101]?.getD undef, tt[102]?.getD undef, tt[103]?.getD undef, tt[104]?.getD undef, tt[105]?.getD undef, tt[106]?.getD undef, tt[107]?.getD undef, tt[108]?.getD undef, tt[109]?.getD undef, tt[110]?.getD undef] := (arr_lit hsz).trans rfl
    rw [g0, g1, g2, g3, g4, g5, g6, g7, g65, g66, g67, g68, g69, g70, g71, g72, g73, g74, g75, g76, g77, g78, g79, g80, g81, g82, g83, g84, g85, g86, g87, g88, g89, g90, g91, g92, g93, g94, g95, g96, g97, g98, g99, g100, g101, g102, g103, g104, g105, g106, g107, g108, g109, g110] at hl
    clear g0 g1 g2 g3 g4 g5 g6 g7 g65 g66 g67 g68 g69 g70 g71 g72 g73 g74 g75 g76 g77 g78 g79 g80 g81 g82 g83 g84 g85 g86 g87 g88 g89 g90 g91 g92 g93 g94 g95 g96 g97 g98 g99 g100 g101 g102 g103 g104 g105 g106 g107 g108 g109 g110 hsz
    generalize tt[8]?.getD undef = y8 at hl
    generalize tt[9]?.getD undef = y9 at hl
    generalize tt[10]?.getD undef = y10 at hl
    generalize tt[11]?.getD undef = y11 at hl
    generalize tt[12]?.getD undef = y12 at hl
    generalize tt[13]?.getD undef = y13 at hl
    generalize tt[14]?.getD undef = y14 at hl
    generalize tt[15]?.getD undef = y15 at hl
    generalize tt[16]?.getD undef = y16 at hl
    generalize tt[17]?.getD undef = y17 at hl
    generalize tt[18]?.getD undef = y18 at hl
    generalize tt[19]?.getD undef = y19 at hl
    generalize tt[20]?.getD undef = y20 at hl
    generalize tt[21]?.getD undef = y21 at hl
    generalize tt[22]?.getD undef = y22 at hl
    generalize tt[23]?.getD undef = y23 at hl
    generalize tt[24]?.getD undef = y24 at hl
    generalize tt[25]?.getD undef = y25 at hl
    generalize tt[26]?.getD undef = y26 at hl
    generalize tt[27]?.getD undef = y27 at hl
    generalize tt[28]?.getD undef = y28 at hl
    generalize tt[29]?.getD undef = y29 at hl
    generalize tt[30]?.getD undef = y30 at hl
    generalize tt[31]?.getD undef = y31 at hl
    generalize tt[32]?.getD undef = y32 at hl
    generalize tt[33]?.getD undef = y33 at hl
    generalize tt[34]?.getD undef = y34 at hl
    generalize tt[35]?.getD undef = y35 at hl
    generalize tt[36]?.getD undef = y36 at hl
    generalize tt[37]?.getD undef = y37 at hl
    generalize tt[38]?.getD undef = y38 at hl
    generalize tt[39]?.getD undef = y39 at hl
    generalize tt[40]?.getD undef = y40 at hl
    generalize tt[41]?.getD undef = y41 at hl
    generalize tt[42]?.getD undef = y42 at hl
    generalize tt[43]?.getD undef = y43 at hl
    generalize tt[44]?.getD undef = y44 at hl
    generalize tt[45]?.getD undef = y45 at hl
    generalize tt[46]?.getD undef = y46 at hl
    generalize tt[47]?.getD undef = y47 at hl
    generalize tt[48]?.getD undef = y48 at hl
    generalize tt[49]?.getD undef = y49 at hl
    generalize tt[50]?.getD undef = y50 at hl
    generalize tt[51]?.getD undef = y51 at hl
    generalize tt[52]?.getD undef = y52 at hl
    generalize tt[53]?.getD undef = y53 at hl
    generalize tt[54]?.getD undef = y54 at hl
    generalize tt[55]?.getD undef = y55 at hl
    generalize tt[56]?.getD undef = y56 at hl
    generalize tt[57]?.getD undef = y57 at hl
    generalize tt[58]?.getD undef = y58 at hl
    generalize tt[59]?.getD undef = y59 at hl
    generalize tt[60]?.getD undef = y60 at hl
    generalize tt[61]?.getD undef = y61 at hl
    generalize tt[62]?.getD undef = y62 at hl
    generalize tt[63]?.getD undef = y63 at hl
    generalize tt[64]?.getD undef = y64 at hl
    subst hl
    have BX := Lib.hid hB
    have K3 := Lib.hid (K1.out.below hB)
    have K4 := Lib.hid (K2.out.below hB)
    clear hB A0 Q0 Q1 K1 K2
    have HZ : Hid (((((((!u0) || b0) || b1) || ((!t0))) || ((!t1)))) = !(u0 && (!b0 && (!b1 && (t0 && t1))))) := Lib.hid (by cases u0 <;> cases b0 <;> cases b1 <;> cases t0 <;> cases t1 <;> rfl)
    generalize ((((((!u0) || b0) || b1) || ((!t0))) || ((!t1)))) = z at HZ ⊢
    cases z
    case true =>
      have HN : Hid (ev = false) := Lib.hid (HF.out (by have := HZ.out; cases hh : (u0 && (!b0 && (!b1 && (t0 && t1)))); rfl; rw [hh] at this; cases this))
      go_wp2
      go_ret
      exact ⟨by rw [HN.out]; rfl, BX.out⟩
    case false =>
      have hall : (u0 && (!b0 && (!b1 && (t0 && t1)))) = true := by have := HZ.out; cases hh : (u0 && (!b0 && (!b1 && (t0 && t1)))); rw [hh] at this; cases this; rfl
      obtain ⟨hnn, HV, HNo⟩ := HT.out hall
      have HV := Lib.hid HV
      have HNo := Lib.hid HNo
      have hle : n ≤ n' := by omega
      clear hall HZ HT HF hnn
      obtain ⟨-, -, -, k3, -, -, -⟩ := K3.out.seven
      go_wp2
      clear k3
      go_loopw [71] (fun i wr => ∃ k : Nat, k ≤ n ∧ i = .int .i64 k ∧ Hid (alls (stAt s s') k = true) ∧ Hid (Below w.heap.size w wr)) (fun i _ => n - (intOf i).toNat)
      case atStart => exact ⟨0, Nat.zero_le _, rfl, rfl, BX⟩
      case round =>
        obtain ⟨k, hk, rfl, hr, HBW⟩ := hrel
        by_cases hlt : k < n
        · have hlt2 : k < n' := by omega
          have k3 := ((KW.out.1 _ HBW.out).seven).2.2.2.1
          have l3 := fun o1 => ((KW.out.2 _ (HBW.out.alloc HBW.out.size o1)).seven).2.2.2.1
          obtain ⟨b, off, rfl, hb, hc0, hc1, hc2⟩ := (HRS.out.1.below HBW.out).st HRS.out.2.2.1 hlt
          obtain ⟨b', off', rfl, hb', -⟩ := HRS.out.2.1.st HRS.out.2.2.2 hlt2
          have HG1 : ∀ o1, Hid ((wr.alloc o1).cell? ⟨b', off' + k * 3, none⟩ = some (.float .f32 (rad s' k)) ∧ (wr.alloc o1).cell? ⟨b', off' + k * 3 + 1, none⟩ = some (.float .f32 (chd s' k)) ∧ (wr.alloc o1).cell? ⟨b', off' + k * 3 + 2, none⟩ = some (.float .f32 (twi s' k))) := fun o1 => Lib.hid (by
            obtain ⟨b1, off1, e, -, g0, g1, g2⟩ := (HRS.out.2.1.below (HBW.out.alloc HBW.out.size o1)).st HRS.out.2.2.2 hlt2
            simp only [Option.some.injEq, Addr.mk.injEq] at e
            obtain ⟨rfl, rfl, -⟩ := e
            exact ⟨g0, g1, g2⟩)
          have hd0 := fun o1 => (HG1 o1).out.1
          have hd1 := fun o1 => (HG1 o1).out.2.1
          have hd2 := fun o1 => (HG1 o1).out.2.2
          have HB2 : ∀ o1 o2, Hid (Below w.heap.size w ((wr.alloc o1).alloc o2)) := fun o1 o2 => Lib.hid ((HBW.out.alloc HBW.out.size o1).alloc (by have := HBW.out.size; simp; omega) o2)
          have HA : Hid (alls (stAt s s') (k + 1) = (decide (canon .f32 (rad s k) = canon .f32 (rad s' k)) && (decide (canon .f32 (chd s k) = canon .f32 (chd s' k)) && decide (canon .f32 (twi s k) = canon .f32 (twi s' k))))) := Lib.hid (by show (alls _ k && _) = _; rw [hr.out]; rfl)
          have AX := Lib.hid (HX.out k hlt)
          have AY := Lib.hid (HY.out k hlt2)
          generalize rad s k = x at hc0 HA AX
          generalize chd s k = y at hc1 HA AX
          generalize twi s k = z at hc2 HA AX
          generalize rad s' k = x' at hd0 HA AY
          generalize chd s' k = y' at hd1 HA AY
          generalize twi s' k = z' at hd2 HA AY
          clear hb hb' HG1
          go_wp2_with fail
          refine (s_l01Same x x' _ AX.out.1 AY.out.1).mono ?_
          rintro e w3 ⟨rfl, rfl⟩
          generalize decide (canon .f32 x = canon .f32 x') = p0 at HA ⊢
          cases p0
          · have HN : Hid (ev = false) := Lib.hid (HNo.out (k + 1) (by rw [HA.out]; rfl) (by omega))
            go_wp2
            go_ret
            exact ⟨by rw [HN.out]; rfl, (HB2 _ _).out⟩
          · go_wp2_with fail
            refine (s_l01Same y y' _ AX.out.2.1 AY.out.2.1).mono ?_
            rintro e w3 ⟨rfl, rfl⟩
            generalize decide (canon .f32 y = canon .f32 y') = p1 at HA ⊢
            cases p1
            · have HN : Hid (ev = false) := Lib.hid (HNo.out (k + 1) (by rw [HA.out]; rfl) (by omega))
              go_wp2
              go_ret
              exact ⟨by rw [HN.out]; rfl, (HB2 _ _).out⟩
            · go_wp2_with fail
              refine (s_l01Same z z' _ AX.out.2.2 AY.out.2.2).mono ?_
              rintro e w3 ⟨rfl, rfl⟩
              generalize decide (canon .f32 z = canon .f32 z') = p2 at HA ⊢
              cases p2
              · have HN : Hid (ev = false) := Lib.hid (HNo.out (k + 1) (by rw [HA.out]; rfl) (by omega))
                go_wp2
                go_ret
                exact ⟨by rw [HN.out]; rfl, (HB2 _ _).out⟩
              · have HQ : Hid (alls (stAt s s') (k + 1) = true) := Lib.hid (by rw [HA.out]; rfl)
                go_wp2
                go_roundw
                case rel => exact ⟨k + 1, by omega, by go_num, HQ, HB2 _ _⟩
                case measure => simp [intOf]; omega
        · have hkk : k = n := by omega
          subst hkk
          have HN : Hid (ev = true) := Lib.hid (by rw [HV.out, hr.out])
          go_wp2
          go_ret
          exact ⟨by rw [HN.out]; rfl, HBW.out⟩
end Go.Proofs.Ytiiiigldpbomkaa
