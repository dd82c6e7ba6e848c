/- DropKnot: the program's side, the whole. No statement is proved here. -/
import Derived.Test.YtplofbkollhjpaaDrpI
namespace Go.Proofs.Ytplofbkollhjpaa
open Go Go.RowKit
set_option maxHeartbeats 16000000 in
set_option maxRecDepth 100000 in
theorem i_DropKnot (A L D : Option Addr) (ca cl cd : Nat) (a l d : List Nat) (i : Int) (w : World) (h : Pf w A L D a l d) (hn : Few a l d) (hca : a.length ≤ ca) (hcl : l.length ≤ cl) (hcd : d.length ≤ cd) :
    Calls Try.prog 25 #[.agg #[.slice A a.length ca, .slice L l.length cl, .slice D d.length cd], .int .i64 i] w fun e w' => ∃ (R1 R2 R3 : Option Addr) (c1 c2 c3 g1 g2 g3 : Nat), e = .returned (.tuple #[.agg #[.slice R1 (gLp (drpO a l d i) (drpL a i)).length c1, .slice R2 (gLp (drpO a l d i) (drpL l i)).length c2, .slice R3 (gLp (drpO a l d i) (drpL d i)).length c3], .bool (drpO a l d i)]) ∧ OwnQ w' w.heap.size R1 R2 R3 g1 g2 g3 (gLp (drpO a l d i) (drpL a i)) (gLp (drpO a l d i) (drpL l i)) (gLp (drpO a l d i) (drpL d i)) ∧ Below w.heap.size w w' := by
  have HP := Lib.hid h; clear h
  have HCP : Hid (a.length ≤ ca ∧ l.length ≤ cl ∧ d.length ≤ cd) := Lib.hid ⟨hca, hcl, hcd⟩
  clear hca hcl hcd
  have HON : Hid (validP a l d = false → drpO a l d i = false) := Lib.hid drpC_v
  have HOI : Hid (¬ (0 ≤ i ∧ i < a.length) → drpO a l d i = false) := Lib.hid drpC_i
  have HOY : Hid (validP a l d = true → 0 ≤ i ∧ i < a.length → drpO a l d i = validP (drpL a i) (drpL l i) (drpL d i)) := Lib.hid drpC_yes
  generalize drpO a l d i = O at HON HOI HOY ⊢
  generalize hX : (drpL a i) = X at HOY ⊢
  generalize hY : (drpL l i) = Y at HOY ⊢
  generalize hZ : (drpL d i) = Z at HOY ⊢
  have HXE : Hid (X = drpL a i) := Lib.hid hX.symm
  have HYE : Hid (Y = drpL l i) := Lib.hid hY.symm
  have HZE : Hid (Z = drpL d i) := Lib.hid hZ.symm
  clear hX hY hZ
  obtain ⟨w0, hw0⟩ : ∃ x, x = ((w.alloc (.cells #[.slice A a.length ca, .slice L l.length cl, .slice D d.length cd] 24)).alloc (.cells #[.int .i64 i] 2)).alloc (.cells #[.slice none 0 0, .slice none 0 0, .slice none 0 0] 24) := ⟨_, rfl⟩
  have K0 : Hid (BlkL w0 w.heap.size [.slice A a.length ca, .slice L l.length cl, .slice D d.length cd]) := Lib.hid (by rw [hw0]; exact ((blkL_at w #[.slice A a.length ca, .slice L l.length cl, .slice D d.length cd] _ rfl).alloc _).alloc _)
  have KI : Hid (BlkL w0 (w.heap.size + 1) [.int .i64 i]) := Lib.hid (by rw [hw0]; exact (blkL_at (w.alloc _) #[.int .i64 i] _ (by simp)).alloc _)
  have KR : Hid (BlkL w0 (w.heap.size + 2) [.slice none 0 0, .slice none 0 0, .slice none 0 0]) := Lib.hid (by rw [hw0]; exact blkL_at ((w.alloc _).alloc _) #[.slice none 0 0, .slice none 0 0, .slice none 0 0] _ (by simp))
  have B0 : Hid (Below w.heap.size w w0) := Lib.hid (by rw [hw0]; exact (((Below.refl _ _).alloc (Nat.le_refl _) _).alloc (by simp) _).alloc (by simp; omega) _)
  have Z0 : Hid (w0.heap.size = w.heap.size + 3) := Lib.hid (by rw [hw0]; simp)
  obtain ⟨k0, k1, k2⟩ := K0.out.three
  go_enter Try.func25, Try.ntmps25
  go_wp2_with fail
  rw [← hw0]
  clear hw0
  refine (i_ValidProfile A L D ca cl cd a l d _ (HP.out.below B0.out) hn).mono ?_
  rintro e w1 ⟨rfl, b1⟩
  clear k0 k1 k2
  have L0 : Hid (BlkL w1 w.heap.size [.slice A a.length ca, .slice L l.length cl, .slice D d.length cd]) := Lib.hid (K0.out.below b1)
  have LI : Hid (BlkL w1 (w.heap.size + 1) [.int .i64 i]) := Lib.hid (KI.out.below b1)
  have LR : Hid (BlkL w1 (w.heap.size + 2) [.slice none 0 0, .slice none 0 0, .slice none 0 0]) := Lib.hid (KR.out.below b1)
  have B1 : Hid (Below w.heap.size w w1) := Lib.hid (below_of B0.out B0.out.size b1)
  have Z1 : Hid (w.heap.size + 3 ≤ w1.heap.size) := Lib.hid (by have := b1.size; have := Z0.out; omega)
  clear b1 K0 KR KI
  have ki := LI.out.oneP
  have kx := L0.out.three.1
  cases v0 : validP a l d
  · have HN := Lib.hid (HON.out v0)
    clear v0
    have p0 := (LR.out.2 0 _ rfl).1
    have q0 := (LR.out.2 0 _ rfl).2
    have p1 := (LR.out.2 1 _ rfl).1
    have q1 := (LR.out.2 1 _ rfl).2
    have p2 := (LR.out.2 2 _ rfl).1
    have q2 := (LR.out.2 2 _ rfl).2
    go_wp2
    refine bodyPost_ret (v := .tuple #[.agg #[.slice none 0 0, .slice none 0 0, .slice none 0 0], .bool false]) ?_ rfl ?_
    · simp [results, Try.results25, go_sem, p0, p1, p2]
    · rw [HN.out]
      exact ⟨none, none, none, 0, 0, 0, 0, 1, 2, rfl, OwnQ.none _ _, (((B1.out).setCell (p := ⟨w.heap.size + 2, 0, none⟩) (by show w.heap.size ≤ w.heap.size + 2; omega) _).setCell (p := ⟨w.heap.size + 2, 1, none⟩) (by show w.heap.size ≤ w.heap.size + 2; omega) _).setCell (p := ⟨w.heap.size + 2, 2, none⟩) (by show w.heap.size ≤ w.heap.size + 2; omega) _⟩
  · obtain ⟨s1, s2, s3, s4⟩ := sized_of v0
    have HS : Hid (l.length = a.length ∧ d.length = a.length) := Lib.hid ⟨s3, s4⟩
    have V0 := Lib.hid v0
    clear v0 s3 s4
    by_cases hi1 : i < 0
    · have HN := Lib.hid (HOI.out (by omega))
      have p0 := (LR.out.2 0 _ rfl).1
      have q0 := (LR.out.2 0 _ rfl).2
      have p1 := (LR.out.2 1 _ rfl).1
      have q1 := (LR.out.2 1 _ rfl).2
      have p2 := (LR.out.2 2 _ rfl).1
      have q2 := (LR.out.2 2 _ rfl).2
      go_wp2
      refine bodyPost_ret (v := .tuple #[.agg #[.slice none 0 0, .slice none 0 0, .slice none 0 0], .bool false]) ?_ rfl ?_
      · simp [results, Try.results25, go_sem, p0, p1, p2]
      · rw [HN.out]
        exact ⟨none, none, none, 0, 0, 0, 0, 1, 2, rfl, OwnQ.none _ _, (((B1.out).setCell (p := ⟨w.heap.size + 2, 0, none⟩) (by show w.heap.size ≤ w.heap.size + 2; omega) _).setCell (p := ⟨w.heap.size + 2, 1, none⟩) (by show w.heap.size ≤ w.heap.size + 2; omega) _).setCell (p := ⟨w.heap.size + 2, 2, none⟩) (by show w.heap.size ≤ w.heap.size + 2; omega) _⟩
    · by_cases hi2 : (a.length : Int) ≤ i
      · have HN := Lib.hid (HOI.out (by omega))
        have p0 := (LR.out.2 0 _ rfl).1
        have q0 := (LR.out.2 0 _ rfl).2
        have p1 := (LR.out.2 1 _ rfl).1
        have q1 := (LR.out.2 1 _ rfl).2
        have p2 := (LR.out.2 2 _ rfl).1
        have q2 := (LR.out.2 2 _ rfl).2
        go_wp2
        refine bodyPost_ret (v := .tuple #[.agg #[.slice none 0 0, .slice none 0 0, .slice none 0 0], .bool false]) ?_ rfl ?_
        · simp [results, Try.results25, go_sem, p0, p1, p2]
        · rw [HN.out]
          exact ⟨none, none, none, 0, 0, 0, 0, 1, 2, rfl, OwnQ.none _ _, (((B1.out).setCell (p := ⟨w.heap.size + 2, 0, none⟩) (by show w.heap.size ≤ w.heap.size + 2; omega) _).setCell (p := ⟨w.heap.size + 2, 1, none⟩) (by show w.heap.size ≤ w.heap.size + 2; omega) _).setCell (p := ⟨w.heap.size + 2, 2, none⟩) (by show w.heap.size ≤ w.heap.size + 2; omega) _⟩
      · have HO := Lib.hid (HOY.out V0.out (by omega))
        obtain ⟨j, rfl⟩ : ∃ j : Nat, i = j := ⟨i.toNat, by omega⟩
        have hj : j < a.length := by omega
        have HCA : Hid (∀ W, Fl W A a → W.cell? ⟨w.heap.size + 1, 0, none⟩ = some (.int .i64 j) → Calls Try.prog 72 #[.slice A a.length ca, .pointer (some ⟨w.heap.size + 1, 0, none⟩)] W fun e w' => ∃ c g ys, e = .returned (.slice (some ⟨g, 0, none⟩) ys.length c) ∧ Own w' g ys ∧ W.heap.size ≤ g ∧ ys = drpL a j ∧ Below W.heap.size W w') := Lib.hid (fun W hf hk => i_without _ j a.length ca A a W hf rfl HCP.out.1 hk hj s1 s2)
        have HCL : Hid (∀ W, Fl W L l → W.cell? ⟨w.heap.size + 1, 0, none⟩ = some (.int .i64 j) → Calls Try.prog 72 #[.slice L l.length cl, .pointer (some ⟨w.heap.size + 1, 0, none⟩)] W fun e w' => ∃ c g ys, e = .returned (.slice (some ⟨g, 0, none⟩) ys.length c) ∧ Own w' g ys ∧ W.heap.size ≤ g ∧ ys = drpL l j ∧ Below W.heap.size W w') := Lib.hid (fun W hf hk => i_without _ j l.length cl L l W hf rfl HCP.out.2.1 hk (by rw [HS.out.1]; exact hj) (by rw [HS.out.1]; exact s1) (by rw [HS.out.1]; exact s2))
        have HCD : Hid (∀ W, Fl W D d → W.cell? ⟨w.heap.size + 1, 0, none⟩ = some (.int .i64 j) → Calls Try.prog 72 #[.slice D d.length cd, .pointer (some ⟨w.heap.size + 1, 0, none⟩)] W fun e w' => ∃ c g ys, e = .returned (.slice (some ⟨g, 0, none⟩) ys.length c) ∧ Own w' g ys ∧ W.heap.size ≤ g ∧ ys = drpL d j ∧ Below W.heap.size W w') := Lib.hid (fun W hf hk => i_without _ j d.length cd D d W hf rfl HCP.out.2.2 hk (by rw [HS.out.2]; exact hj) (by rw [HS.out.2]; exact s1) (by rw [HS.out.2]; exact s2))
        have HLEN : Hid (X.length ≤ 24 ∧ Y.length ≤ 24 ∧ Z.length ≤ 24) := Lib.hid (by rw [HXE.out, HYE.out, HZE.out, drpL_length hj, drpL_length (by rw [HS.out.1]; exact hj), drpL_length (by rw [HS.out.2]; exact hj), HS.out.1, HS.out.2]; omega)
        have z1 := Z1.out
        go_wp2_with fail
        clear ki kx
        have hFin := PFin.below ((w.heap.size + 2)) w1.heap.size O X Y Z
        refine wp_region_inv7 (fun iq wv v => match iq with
          | 0 => v = .func (.func 72) #[] #[.pointer (some ⟨w.heap.size + 1, 0, none⟩)]
          | 1 => v = .pointer (some ⟨w.heap.size, 0, none⟩)
          | 2 => v = .slice A a.length ca
          | 3 => ∃ cp bk xs, v = .slice (some ⟨bk, 0, none⟩) xs.length cp ∧ Own wv bk xs ∧ w1.heap.size ≤ bk ∧ CL xs X
          | 4 => v = .func (.func 72) #[] #[.pointer (some ⟨w.heap.size + 1, 0, none⟩)]
          | 5 => v = .pointer (some ⟨w.heap.size, 1, none⟩)
          | 6 => v = .slice L l.length cl
          | 7 => ∃ cp bk xs, v = .slice (some ⟨bk, 0, none⟩) xs.length cp ∧ Own wv bk xs ∧ w1.heap.size ≤ bk ∧ CL xs Y
          | 8 => v = .func (.func 72) #[] #[.pointer (some ⟨w.heap.size + 1, 0, none⟩)]
          | 9 => v = .pointer (some ⟨w.heap.size, 2, none⟩)
          | 10 => v = .slice D d.length cd
          | 11 => ∃ cp bk xs, v = .slice (some ⟨bk, 0, none⟩) xs.length cp ∧ Own wv bk xs ∧ w1.heap.size ≤ bk ∧ CL xs Z
          | 12 => ∃ da ka xa db kb xb dc kc xc, v = .agg #[.slice (some ⟨ka, 0, none⟩) xa.length da, .slice (some ⟨kb, 0, none⟩) xb.length db, .slice (some ⟨kc, 0, none⟩) xc.length dc] ∧ OwnQ wv w1.heap.size (some ⟨ka, 0, none⟩) (some ⟨kb, 0, none⟩) (some ⟨kc, 0, none⟩) ka kb kc xa xb xc ∧ (CL xa X ∧ CL xb Y ∧ CL xc Z)
          | 13 => PGiv w1.heap.size O X Y Z wv v
          | 14 => PAgg w1.heap.size O X Y Z wv v
          | 15 => v = .bool O
          | 16 => True
          | 17 => v = .bool O
          | _ => False) (fun listed aa ww => StC w1 ((w.heap.size + 2)) 3 16 (PFin ((w.heap.size + 2)) w1.heap.size O X Y Z) listed ww ∧ AP [26, 30, 34] aa ww) (fun wa wb => Turn wa wb (fun b => b = (w.heap.size + 2))) ?hmono (by kernel_rfl) (by kernel_rfl) ⟨StC.start LR.out rfl, AP.start (by rfl)⟩ ?hop ?hend
        case hmono =>
          intro i wa wb v hR hV
          rcases i with _ | _ | _ | _ | _ | _ | _ | _ | _ | _ | _ | _ | _ | _ | _ | _ | _ | _ | i
          · exact hV
          · exact hV
          · exact hV
          · obtain ⟨cp, bk, xs, rfl, ho, hb, hr⟩ := hV; exact ⟨cp, bk, xs, rfl, ho.turn hR (by show ¬ bk = _; omega), hb, hr⟩
          · exact hV
          · exact hV
          · exact hV
          · obtain ⟨cp, bk, xs, rfl, ho, hb, hr⟩ := hV; exact ⟨cp, bk, xs, rfl, ho.turn hR (by show ¬ bk = _; omega), hb, hr⟩
          · exact hV
          · exact hV
          · exact hV
          · obtain ⟨cp, bk, xs, rfl, ho, hb, hr⟩ := hV; exact ⟨cp, bk, xs, rfl, ho.turn hR (by show ¬ bk = _; omega), hb, hr⟩
          · obtain ⟨da, ka, xa, db, kb, xb, dc, kc, xc, rfl, ho, hr⟩ := hV; exact ⟨da, ka, xa, db, kb, xb, dc, kc, xc, rfl, OwnQ.turn' ho hR (fun b h1 _ hb => by have hb : b = _ := hb; omega), hr⟩
          · exact hV.turn hR (by omega)
          · exact hV.turn hR (by omega)
          · exact hV
          · exact hV
          · exact hV
          · exact hV
        case hop =>
          intro q o hq listed act w3 hI hCA hnot hcl hall
          obtain ⟨hC, hA⟩ := hCA
          have hlen : listed.size = 18 := hI.len
          obtain ⟨kx0, kx1, kx2⟩ := (L0.out.turnS hC.1 (by intro e; omega)).three
          have ki := (LI.out.turnS hC.1 (by intro e; omega)).oneP
          rcases q with _ | _ | _ | _ | _ | _ | _ | _ | _ | _ | _ | _ | _ | _ | _ | _ | _ | _ | q
          · simp at hq; subst hq
            have g6 : act.tmps[6]?.getD undef = .func (.func 72) #[] #[.pointer (some ⟨w.heap.size + 1, 0, none⟩)] := hI.kept 6 (by kernel_rfl)
            have hA2 := fun v => AP.other (k := 23) hA (by decide) v
            clear hI hall hnot hcl
            refine .inl ⟨wanted_none rfl, ?_⟩
            unfold Oper.wp
            go_simp
            all_goals exact ⟨_, rfl, Turn.refl _ _, rfl, StC.step (k := 0) hC (Below.refl _ _) hFin (by decide) (by rw [hlen]; decide), hA2 _⟩
          · simp at hq; subst hq
            have g2 : act.tmps[2]?.getD undef = .pointer (some ⟨w.heap.size, 0, none⟩) := hI.kept 2 (by kernel_rfl)
            have hA2 := fun v => AP.other (k := 24) hA (by decide) v
            clear hI hall hnot hcl
            refine .inl ⟨wanted_none rfl, ?_⟩
            unfold Oper.wp
            go_simp
            all_goals exact ⟨_, rfl, Turn.refl _ _, rfl, StC.step (k := 1) hC (Below.refl _ _) hFin (by decide) (by rw [hlen]; decide), hA2 _⟩
          · simp at hq; subst hq
            have g24 : act.tmps[24]?.getD undef = .pointer (some ⟨w.heap.size, 0, none⟩) := hI.has 1 24 rfl (hall ⟨1, .data⟩ (by simp) rfl)
            have hA2 := fun v => AP.other (k := 25) hA (by decide) v
            clear hI hall hnot hcl
            refine .inl ⟨wanted_none rfl, ?_⟩
            unfold Oper.wp
            go_simp
            all_goals exact ⟨_, rfl, Turn.refl _ _, rfl, StC.step (k := 2) hC (Below.refl _ _) hFin (by decide) (by rw [hlen]; decide), hA2 _⟩
          · simp at hq; subst hq
            have g23 : act.tmps[23]?.getD undef = .func (.func 72) #[] #[.pointer (some ⟨w.heap.size + 1, 0, none⟩)] := hI.has 0 23 rfl (hall ⟨0, .data⟩ (by simp) rfl)
            have g25 : act.tmps[25]?.getD undef = .slice A a.length ca := hI.has 2 25 rfl (hall ⟨2, .data⟩ (by simp) rfl)
            clear hI hall hnot hcl
            refine .inl ⟨wanted_none rfl, ?_⟩
            unfold Oper.wp
            go_simp
            refine (HCA.out w3 (HP.out.1.turnW B1.out hC.1 (by omega)) ki).mono ?_
            rintro e w4 ⟨cp, bk, xs, rfl, ho, hlo, hcx, b4⟩
            have hz := hC.1.1
            exact ⟨_, rfl, Turn.of_below b4 _, ⟨cp, bk, xs, rfl, ho, by omega, by rw [hcx, HXE.out]; exact CL.rfl' _⟩, StC.step (k := 3) hC b4 hFin (by decide) (by rw [hlen]; decide), AP.new hA b4.size hlo ho.1⟩
          · simp at hq; subst hq
            have g6 : act.tmps[6]?.getD undef = .func (.func 72) #[] #[.pointer (some ⟨w.heap.size + 1, 0, none⟩)] := hI.kept 6 (by kernel_rfl)
            have hA2 := fun v => AP.other (k := 27) hA (by decide) v
            clear hI hall hnot hcl
            refine .inl ⟨wanted_none rfl, ?_⟩
            unfold Oper.wp
            go_simp
            all_goals exact ⟨_, rfl, Turn.refl _ _, rfl, StC.step (k := 4) hC (Below.refl _ _) hFin (by decide) (by rw [hlen]; decide), hA2 _⟩
          · simp at hq; subst hq
            have g2 : act.tmps[2]?.getD undef = .pointer (some ⟨w.heap.size, 0, none⟩) := hI.kept 2 (by kernel_rfl)
            have hA2 := fun v => AP.other (k := 28) hA (by decide) v
            clear hI hall hnot hcl
            refine .inl ⟨wanted_none rfl, ?_⟩
            unfold Oper.wp
            go_simp
            all_goals exact ⟨_, rfl, Turn.refl _ _, rfl, StC.step (k := 5) hC (Below.refl _ _) hFin (by decide) (by rw [hlen]; decide), hA2 _⟩
          · simp at hq; subst hq
            have g28 : act.tmps[28]?.getD undef = .pointer (some ⟨w.heap.size, 1, none⟩) := hI.has 5 28 rfl (hall ⟨5, .data⟩ (by simp) rfl)
            have hA2 := fun v => AP.other (k := 29) hA (by decide) v
            clear hI hall hnot hcl
            refine .inl ⟨wanted_none rfl, ?_⟩
            unfold Oper.wp
            go_simp
            all_goals exact ⟨_, rfl, Turn.refl _ _, rfl, StC.step (k := 6) hC (Below.refl _ _) hFin (by decide) (by rw [hlen]; decide), hA2 _⟩
          · simp at hq; subst hq
            have g27 : act.tmps[27]?.getD undef = .func (.func 72) #[] #[.pointer (some ⟨w.heap.size + 1, 0, none⟩)] := hI.has 4 27 rfl (hall ⟨4, .data⟩ (by simp) rfl)
            have g29 : act.tmps[29]?.getD undef = .slice L l.length cl := hI.has 6 29 rfl (hall ⟨6, .data⟩ (by simp) rfl)
            clear hI hall hnot hcl
            refine .inl ⟨wanted_none rfl, ?_⟩
            unfold Oper.wp
            go_simp
            refine (HCL.out w3 (HP.out.2.1.turnW B1.out hC.1 (by omega)) ki).mono ?_
            rintro e w4 ⟨cp, bk, xs, rfl, ho, hlo, hcx, b4⟩
            have hz := hC.1.1
            exact ⟨_, rfl, Turn.of_below b4 _, ⟨cp, bk, xs, rfl, ho, by omega, by rw [hcx, HYE.out]; exact CL.rfl' _⟩, StC.step (k := 7) hC b4 hFin (by decide) (by rw [hlen]; decide), AP.new hA b4.size hlo ho.1⟩
          · simp at hq; subst hq
            have g6 : act.tmps[6]?.getD undef = .func (.func 72) #[] #[.pointer (some ⟨w.heap.size + 1, 0, none⟩)] := hI.kept 6 (by kernel_rfl)
            have hA2 := fun v => AP.other (k := 31) hA (by decide) v
            clear hI hall hnot hcl
            refine .inl ⟨wanted_none rfl, ?_⟩
            unfold Oper.wp
            go_simp
            all_goals exact ⟨_, rfl, Turn.refl _ _, rfl, StC.step (k := 8) hC (Below.refl _ _) hFin (by decide) (by rw [hlen]; decide), hA2 _⟩
          · simp at hq; subst hq
            have g2 : act.tmps[2]?.getD undef = .pointer (some ⟨w.heap.size, 0, none⟩) := hI.kept 2 (by kernel_rfl)
            have hA2 := fun v => AP.other (k := 32) hA (by decide) v
            clear hI hall hnot hcl
            refine .inl ⟨wanted_none rfl, ?_⟩
            unfold Oper.wp
            go_simp
            all_goals exact ⟨_, rfl, Turn.refl _ _, rfl, StC.step (k := 9) hC (Below.refl _ _) hFin (by decide) (by rw [hlen]; decide), hA2 _⟩
          · simp at hq; subst hq
            have g32 : act.tmps[32]?.getD undef = .pointer (some ⟨w.heap.size, 2, none⟩) := hI.has 9 32 rfl (hall ⟨9, .data⟩ (by simp) rfl)
            have hA2 := fun v => AP.other (k := 33) hA (by decide) v
            clear hI hall hnot hcl
            refine .inl ⟨wanted_none rfl, ?_⟩
            unfold Oper.wp
            go_simp
            all_goals exact ⟨_, rfl, Turn.refl _ _, rfl, StC.step (k := 10) hC (Below.refl _ _) hFin (by decide) (by rw [hlen]; decide), hA2 _⟩
          · simp at hq; subst hq
            have g31 : act.tmps[31]?.getD undef = .func (.func 72) #[] #[.pointer (some ⟨w.heap.size + 1, 0, none⟩)] := hI.has 8 31 rfl (hall ⟨8, .data⟩ (by simp) rfl)
            have g33 : act.tmps[33]?.getD undef = .slice D d.length cd := hI.has 10 33 rfl (hall ⟨10, .data⟩ (by simp) rfl)
            clear hI hall hnot hcl
            refine .inl ⟨wanted_none rfl, ?_⟩
            unfold Oper.wp
            go_simp
            refine (HCD.out w3 (HP.out.2.2.turnW B1.out hC.1 (by omega)) ki).mono ?_
            rintro e w4 ⟨cp, bk, xs, rfl, ho, hlo, hcx, b4⟩
            have hz := hC.1.1
            exact ⟨_, rfl, Turn.of_below b4 _, ⟨cp, bk, xs, rfl, ho, by omega, by rw [hcx, HZE.out]; exact CL.rfl' _⟩, StC.step (k := 11) hC b4 hFin (by decide) (by rw [hlen]; decide), AP.new hA b4.size hlo ho.1⟩
          · simp at hq; subst hq
            obtain ⟨cp3, bk3, xs3, g26, h3a, h3b, h3c⟩ := hI.has 3 26 rfl (hall ⟨3, .data⟩ (by simp) rfl)
            obtain ⟨cp7, bk7, xs7, g30, h7a, h7b, h7c⟩ := hI.has 7 30 rfl (hall ⟨7, .data⟩ (by simp) rfl)
            obtain ⟨cp11, bk11, xs11, g34, h11a, h11b, h11c⟩ := hI.has 11 34 rfl (hall ⟨11, .data⟩ (by simp) rfl)
            have hA2 := fun v => AP.other (k := 35) hA (by decide) v
            clear hI hall hnot hcl
            refine .inl ⟨wanted_none rfl, ?_⟩
            unfold Oper.wp
            go_simp
            have e12 := (hA.2 26 (by decide) 30 (by decide) (by decide) _ _ _ _ _ _ _ _ (by rw [Array.getD_eq_getD_getElem?]; exact g26) (by rw [Array.getD_eq_getD_getElem?]; exact g30))
            have e13 := (hA.2 26 (by decide) 34 (by decide) (by decide) _ _ _ _ _ _ _ _ (by rw [Array.getD_eq_getD_getElem?]; exact g26) (by rw [Array.getD_eq_getD_getElem?]; exact g34))
            have e23 := (hA.2 30 (by decide) 34 (by decide) (by decide) _ _ _ _ _ _ _ _ (by rw [Array.getD_eq_getD_getElem?]; exact g30) (by rw [Array.getD_eq_getD_getElem?]; exact g34))
            exact ⟨_, rfl, Turn.refl _ _, ⟨cp3, bk3, xs3, cp7, bk7, xs7, cp11, bk11, xs11, rfl, ⟨Own.o h3a h3b, Own.o h7a h7b, Own.o h11a h11b, e12, e13, e23⟩, h3c, h7c, h11c⟩, StC.step (k := 12) hC (Below.refl _ _) hFin (by decide) (by rw [hlen]; decide), hA2 _⟩
          · simp at hq; subst hq
            obtain ⟨da12, ka12, xa12, db12, kb12, xb12, dc12, kc12, xc12, g35, h12a, h12b⟩ := hI.has 12 35 rfl (hall ⟨12, .data⟩ (by simp) rfl)
            have hA2 := fun v => AP.other (k := 36) hA (by decide) v
            clear hI hall hnot hcl
            refine .inl ⟨wanted_none rfl, ?_⟩
            unfold Oper.wp
            go_simp
            refine (i_GiveQ _ _ _ _ _ _ _ _ _ w1.heap.size xa12 xb12 xc12 X Y Z O w3 h12a h12b.1 h12b.2.1 h12b.2.2 HO.out (by have h1 := h12b.1.1; have h2 := h12b.2.1.1; have h3 := h12b.2.2.1; have h4 := HLEN.out; unfold Few; omega)).mono ?_
            rintro e w4 ⟨Ra, Rb, Rc, da, db, dc, ka, kb, kc, rfl, ho, b4⟩
            exact ⟨_, rfl, Turn.of_below b4 _, PGiv.mk' ho, StC.step (k := 13) hC b4 hFin (by decide) (by rw [hlen]; decide), (hA2 _).grow b4.size⟩
          · simp at hq; subst hq
            obtain ⟨Ra13, Rb13, Rc13, da13, db13, dc13, ka13, kb13, kc13, g36, h13a⟩ := hI.has 13 36 rfl (hall ⟨13, .data⟩ (by simp) rfl)
            have hA2 := fun v => AP.other (k := 37) hA (by decide) v
            clear hI hall hnot hcl
            refine .inl ⟨wanted_none rfl, ?_⟩
            unfold Oper.wp
            go_simp
            exact ⟨_, rfl, Turn.refl _ _, PAgg.mk' h13a, StC.step (k := 14) hC (Below.refl _ _) hFin (by decide) (by rw [hlen]; decide), hA2 _⟩
          · simp at hq; subst hq
            obtain ⟨Ra13, Rb13, Rc13, da13, db13, dc13, ka13, kb13, kc13, g36, h13a⟩ := hI.has 13 36 rfl (hall ⟨13, .data⟩ (by simp) rfl)
            have hA2 := fun v => AP.other (k := 38) hA (by decide) v
            clear hI hall hnot hcl
            refine .inl ⟨wanted_none rfl, ?_⟩
            unfold Oper.wp
            go_simp
            all_goals exact ⟨_, rfl, Turn.refl _ _, rfl, StC.step (k := 15) hC (Below.refl _ _) hFin (by decide) (by rw [hlen]; decide), hA2 _⟩
          · simp at hq; subst hq
            have g4 : act.tmps[4]?.getD undef = .pointer (some ⟨(w.heap.size + 2), 0, none⟩) := hI.kept 4 (by kernel_rfl)
            obtain ⟨Ra14, Rb14, Rc14, da14, db14, dc14, ka14, kb14, kc14, g37, h14a⟩ := hI.has 14 37 rfl (hall ⟨14, .data⟩ (by simp) rfl)
            have hA2 := fun v => AP.skip hA v
            clear hI hall hnot hcl
            refine .inl ⟨wanted_none rfl, ?_⟩
            unfold Oper.wp
            go_simp
            obtain ⟨vs, hvs, hvl⟩ := hC.2.1
            match vs, hvs, hvl with
            | [a0, a1, a2], hvs, _ =>
            have p0 := (hvs.2 0 _ rfl).1
            have q0 := (hvs.2 0 _ rfl).2
            have p1 := (hvs.2 1 _ rfl).1
            have q1 := (hvs.2 1 _ rfl).2
            have p2 := (hvs.2 2 _ rfl).1
            have q2 := (hvs.2 2 _ rfl).2
            go_simp
            have hf := (((hvs.set (i := 0) (by simp) (.slice Ra14 (gLp O X).length da14)).set (i := 1) (by simp) (.slice Rb14 (gLp O Y).length db14)).set (i := 2) (by simp) (.slice Rc14 (gLp O Z).length dc14))
            have ht := (((Turn.set w3 (B := (w.heap.size + 2)) ⟨(w.heap.size + 2), 0, none⟩ rfl (.slice Ra14 (gLp O X).length da14)).trans (Turn.set _ (B := (w.heap.size + 2)) ⟨(w.heap.size + 2), 1, none⟩ rfl (.slice Rb14 (gLp O Y).length db14))).trans (Turn.set _ (B := (w.heap.size + 2)) ⟨(w.heap.size + 2), 2, none⟩ rfl (.slice Rc14 (gLp O Z).length dc14)))
            have hn := (((h14a.setC (p := ⟨(w.heap.size + 2), 0, none⟩) (by show (w.heap.size + 2) < _; omega) (.slice Ra14 (gLp O X).length da14)).setC (p := ⟨(w.heap.size + 2), 1, none⟩) (by show (w.heap.size + 2) < _; omega) (.slice Rb14 (gLp O Y).length db14)).setC (p := ⟨(w.heap.size + 2), 2, none⟩) (by show (w.heap.size + 2) < _; omega) (.slice Rc14 (gLp O Z).length dc14))
            have hst := StC.store (st := 16) hC ht hf rfl ⟨Ra14, Rb14, Rc14, da14, db14, dc14, ka14, kb14, kc14, hf, hn⟩
            have hap := (hA2 undef).grow ht.1
            first | exact ⟨ht, trivial, hst, hap⟩ | exact ⟨ht, hst, hap⟩
          · simp at hq; subst hq
            have g38 : act.tmps[38]?.getD undef = .bool O := hI.has 15 38 rfl (hall ⟨15, .data⟩ (by simp) rfl)
            have hA2 := fun v => AP.other (k := 5) hA (by decide) v
            clear hI hall hnot hcl
            refine .inl ⟨wanted_none rfl, ?_⟩
            unfold Oper.wp
            go_simp
            all_goals exact ⟨_, rfl, Turn.refl _ _, rfl, StC.step (k := 17) hC (Below.refl _ _) hFin (by decide) (by rw [hlen]; decide), hA2 _⟩
          · simp at hq
        case hend =>
          intro listed act w3 hI hCA hall
          obtain ⟨hC, hA⟩ := hCA
          have hlen : listed.size = 18 := hI.len
          obtain ⟨kx0, kx1, kx2⟩ := (L0.out.turnS hC.1 (by intro e; omega)).three
          have ki := (LI.out.turnS hC.1 (by intro e; omega)).oneP
          obtain ⟨Ra, Rb, Rc, da, db, dc, ka, kb, kc, hf, hown⟩ := hC.2.2 (hall 16 (by decide))
          have ht := hC.1
          have g4 : act.tmps[4]?.getD undef = .pointer (some ⟨(w.heap.size + 2), 0, none⟩) := hI.kept 4 (by kernel_rfl)
          have g5 : act.tmps[5]?.getD undef = .bool O := hI.has 17 5 rfl (hall 17 (by decide))
          have hd := hI.defers
          clear hI hall hFin hC hA
          have c0 := (hf.2 0 _ rfl).1
          have c1 := (hf.2 1 _ rfl).1
          have c2 := (hf.2 2 _ rfl).1
          go_wp2
          refine bodyPost_ret (v := .tuple #[.agg #[.slice Ra (gLp O X).length da, .slice Rb (gLp O Y).length db, .slice Rc (gLp O Z).length dc], .bool O]) (by simp [results, Try.results25, g4, g5, c0, c1, c2, go_sem]) (by first | rfl | exact hd) ?_
          have hbw := ht.2.2.2 w B1.out (fun b hb => by have hb : b = (w.heap.size + 2) := hb; omega)
          first | exact ⟨Ra, Rb, Rc, da, db, dc, ka, kb, kc, rfl, hown.base B1.out.size, hbw⟩ | exact ⟨Ra, Rb, Rc, ⟨da, db, dc, rfl⟩, ⟨ka, kb, kc, hown.base B1.out.size⟩, hbw⟩
end Go.Proofs.Ytplofbkollhjpaa
