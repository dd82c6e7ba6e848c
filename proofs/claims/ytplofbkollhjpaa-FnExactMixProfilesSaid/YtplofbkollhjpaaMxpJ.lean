/- MixProfiles: the program's side, the whole. No statement is proved here. -/
import Derived.Test.YtplofbkollhjpaaMxpI
namespace Go.Proofs.Ytplofbkollhjpaa
open Go Go.RowKit
theorem mxO_e2 {a l d a' l' d' : List Nat} {s : Nat} (h : (decide (a.length = a'.length) && eqvK a a' a.length) = false) : mxO a l d a' l' d' s = false := by
  unfold mxO mxC
  cases h1 : decide (a.length = a'.length)
  · simp
  · rw [h1, Bool.true_and] at h; rw [h]; simp
set_option maxHeartbeats 16000000 in
set_option maxRecDepth 100000 in
theorem i_MixProfiles (A L D : Option Addr) (ca cl cd : Nat) (a l d : List Nat) (A' L' D' : Option Addr) (ca' cl' cd' : Nat) (a' l' d' : List Nat) (s : Nat) (w : World) (h : Pf w A L D a l d) (h' : Pf w A' L' D' a' l' d') (hn : Few a l d) (hn' : Few a' l' d') :
    Calls Try.prog 31 #[.agg #[.slice A a.length ca, .slice L l.length cl, .slice D d.length cd], .agg #[.slice A' a'.length ca', .slice L' l'.length cl', .slice D' d'.length cd'], .float .f32 s] w fun e w' => ∃ (R1 R2 R3 : Option Addr) (c1 c2 c3 g1 g2 g3 : Nat), e = .returned (.tuple #[.agg #[.slice R1 (gLp (mxO a l d a' l' d' s) a).length c1, .slice R2 (gLp (mxO a l d a' l' d' s) (mxL l l' s)).length c2, .slice R3 (gLp (mxO a l d a' l' d' s) (mxL d d' s)).length c3], .bool (mxO a l d a' l' d' s)]) ∧ OwnQ w' w.heap.size R1 R2 R3 g1 g2 g3 (gLp (mxO a l d a' l' d' s) a) (gLp (mxO a l d a' l' d' s) (mxL l l' s)) (gLp (mxO a l d a' l' d' s) (mxL d d' s)) ∧ Below w.heap.size w w' := by
  have HP := Lib.hid h; clear h
  have HP' := Lib.hid h'; clear h'
  have HOC : Hid (mxC a l d a' l' d' s = false → mxO a l d a' l' d' s = false) := Lib.hid mxO_c
  have HOE : Hid (∀ k, eqvK a a' k = false → k ≤ a.length → mxO a l d a' l' d' s = false) := Lib.hid (fun k h hk => mxO_e h hk)
  have HOY : Hid (mxC a l d a' l' d' s = true → eqvK a a' a.length = true → mxO a l d a' l' d' s = validP a (mxL l l' s) (mxL d d' s)) := Lib.hid mxO_y
  have HO2 : Hid ((decide (a.length = a'.length) && eqvK a a' a.length) = false → mxO a l d a' l' d' s = false) := Lib.hid mxO_e2
  generalize mxO a l d a' l' d' s = O at HOC HOE HOY HO2 ⊢
  generalize hY : (mxL l l' s) = Y at HOY ⊢
  generalize hZ : (mxL d d' s) = Z at HOY ⊢
  have HYE : Hid (Y = (mxL l l' s)) := Lib.hid hY.symm
  have HZE : Hid (Z = (mxL d d' s)) := Lib.hid hZ.symm
  clear hY hZ
  obtain ⟨w0, hw0⟩ : ∃ x, x = (((w.alloc (.cells #[.slice A a.length ca, .slice L l.length cl, .slice D d.length cd] 24)).alloc (.cells #[.slice A' a'.length ca', .slice L' l'.length cl', .slice D' d'.length cd'] 24)).alloc (.cells #[.float .f32 s] 31)).alloc (.cells #[.slice none 0 0, .slice none 0 0, .slice none 0 0] 24) := ⟨_, rfl⟩
  have Lw0 : Hid (BlkL w0 w.heap.size [.slice A a.length ca, .slice L l.length cl, .slice D d.length cd]) := Lib.hid (by rw [hw0]; exact (((blkL_at w #[.slice A a.length ca, .slice L l.length cl, .slice D d.length cd] _ rfl).alloc _).alloc _).alloc _)
  have Mw0 : Hid (BlkL w0 (w.heap.size + 1) [.slice A' a'.length ca', .slice L' l'.length cl', .slice D' d'.length cd']) := Lib.hid (by rw [hw0]; exact ((blkL_at (w.alloc _) #[.slice A' a'.length ca', .slice L' l'.length cl', .slice D' d'.length cd'] _ (by simp)).alloc _).alloc _)
  have Sw0 : Hid (BlkL w0 (w.heap.size + 2) [.float .f32 s]) := Lib.hid (by rw [hw0]; exact (blkL_at ((w.alloc _).alloc _) #[.float .f32 s] _ (by simp)).alloc _)
  have Rw0 : Hid (BlkL w0 (w.heap.size + 3) [.slice none 0 0, .slice none 0 0, .slice none 0 0]) := Lib.hid (by rw [hw0]; exact blkL_at (((w.alloc _).alloc _).alloc _) #[.slice none 0 0, .slice none 0 0, .slice none 0 0] _ (by simp))
  have Bw0 : Hid (Below w.heap.size w w0) := Lib.hid (by rw [hw0]; exact ((((Below.refl _ _).alloc (Nat.le_refl _) _).alloc (by simp) _).alloc (by simp; omega) _).alloc (by simp; omega) _)
  have Zw0 : Hid (w.heap.size + 4 ≤ w0.heap.size) := Lib.hid (by rw [hw0]; simp)
  obtain ⟨k0, k1, k2⟩ := Lw0.out.three
  obtain ⟨k0', k1', k2'⟩ := Mw0.out.three
  have ks := Sw0.out.oneP
  go_enter Try.func31, Try.ntmps31
  go_wp2_with fail
  rw [← hw0]
  clear hw0
  refine (i_ValidProfile A L D ca cl cd a l d _ (HP.out.below Bw0.out) hn).mono ?_
  rintro e wa ⟨rfl, b1⟩
  clear k0 k1 k2 k0' k1' k2' ks
  have Lwa := Lib.hid (Lw0.out.below b1)
  have Mwa := Lib.hid (Mw0.out.below b1)
  have Swa := Lib.hid (Sw0.out.below b1)
  have Rwa := Lib.hid (Rw0.out.below b1)
  have Bwa : Hid (Below w.heap.size w wa) := Lib.hid (below_of Bw0.out Bw0.out.size b1)
  have Zwa : Hid (w.heap.size + 4 ≤ wa.heap.size) := Lib.hid (by have := b1.size; have := Zw0.out; omega)
  clear b1
  obtain ⟨k0, k1, k2⟩ := Lwa.out.three
  obtain ⟨k0', k1', k2'⟩ := Mwa.out.three
  have ks := Swa.out.oneP
  cases v0 : validP a l d
  · have HN := Lib.hid (HOC.out (mxC_1 v0))
    clear v0
    have p0 := (Rwa.out.2 0 _ rfl).1
    have q0 := (Rwa.out.2 0 _ rfl).2
    have p1 := (Rwa.out.2 1 _ rfl).1
    have q1 := (Rwa.out.2 1 _ rfl).2
    have p2 := (Rwa.out.2 2 _ rfl).1
    have q2 := (Rwa.out.2 2 _ rfl).2
    go_wp2
    refine bodyPost_ret (v := .tuple #[.agg #[.slice none 0 0, .slice none 0 0, .slice none 0 0], .bool false]) ?_ rfl ?_
    · simp [results, Try.results31, go_sem, p0, p1, p2]
    · rw [HN.out]
      exact ⟨none, none, none, 0, 0, 0, 0, 1, 2, rfl, OwnQ.none _ _, (((Bwa.out).setCell (p := ⟨w.heap.size + 3, 0, none⟩) (by show w.heap.size ≤ w.heap.size + 3; omega) _).setCell (p := ⟨w.heap.size + 3, 1, none⟩) (by show w.heap.size ≤ w.heap.size + 3; omega) _).setCell (p := ⟨w.heap.size + 3, 2, none⟩) (by show w.heap.size ≤ w.heap.size + 3; omega) _⟩
  · have V0 := Lib.hid v0
    clear v0
    go_wp2_with fail
    refine (i_ValidProfile A' L' D' ca' cl' cd' a' l' d' _ (HP'.out.below Bwa.out) hn').mono ?_
    rintro e wb ⟨rfl, b1⟩
    clear k0 k1 k2 k0' k1' k2' ks
    have Lwb := Lib.hid (Lwa.out.below b1)
    have Mwb := Lib.hid (Mwa.out.below b1)
    have Swb := Lib.hid (Swa.out.below b1)
    have Rwb := Lib.hid (Rwa.out.below b1)
    have Bwb : Hid (Below w.heap.size w wb) := Lib.hid (below_of Bwa.out Bwa.out.size b1)
    have Zwb : Hid (w.heap.size + 4 ≤ wb.heap.size) := Lib.hid (by have := b1.size; have := Zwa.out; omega)
    clear b1
    obtain ⟨k0, k1, k2⟩ := Lwb.out.three
    obtain ⟨k0', k1', k2'⟩ := Mwb.out.three
    have ks := Swb.out.oneP
    cases v1 : validP a' l' d'
    · have HN := Lib.hid (HOC.out (mxC_2 v1))
      clear v1
      have p0 := (Rwb.out.2 0 _ rfl).1
      have q0 := (Rwb.out.2 0 _ rfl).2
      have p1 := (Rwb.out.2 1 _ rfl).1
      have q1 := (Rwb.out.2 1 _ rfl).2
      have p2 := (Rwb.out.2 2 _ rfl).1
      have q2 := (Rwb.out.2 2 _ rfl).2
      go_wp2
      refine bodyPost_ret (v := .tuple #[.agg #[.slice none 0 0, .slice none 0 0, .slice none 0 0], .bool false]) ?_ rfl ?_
      · simp [results, Try.results31, go_sem, p0, p1, p2]
      · rw [HN.out]
        exact ⟨none, none, none, 0, 0, 0, 0, 1, 2, rfl, OwnQ.none _ _, (((Bwb.out).setCell (p := ⟨w.heap.size + 3, 0, none⟩) (by show w.heap.size ≤ w.heap.size + 3; omega) _).setCell (p := ⟨w.heap.size + 3, 1, none⟩) (by show w.heap.size ≤ w.heap.size + 3; omega) _).setCell (p := ⟨w.heap.size + 3, 2, none⟩) (by show w.heap.size ≤ w.heap.size + 3; omega) _⟩
    · have V1 := Lib.hid v1
      clear v1
      go_wp2_with fail
      refine (i_IsFinite _ _).mono ?_
      rintro e wc ⟨n3, rfl, hw⟩
      have b1 : Below wb.heap.size wb wc := by rw [hw]; exact below_draws (Below.refl _ _) _
      clear hw
      clear k0 k1 k2 k0' k1' k2' ks
      have Lwc := Lib.hid (Lwb.out.below b1)
      have Mwc := Lib.hid (Mwb.out.below b1)
      have Swc := Lib.hid (Swb.out.below b1)
      have Rwc := Lib.hid (Rwb.out.below b1)
      have Bwc : Hid (Below w.heap.size w wc) := Lib.hid (below_of Bwb.out Bwb.out.size b1)
      have Zwc : Hid (w.heap.size + 4 ≤ wc.heap.size) := Lib.hid (by have := b1.size; have := Zwb.out; omega)
      clear b1
      obtain ⟨k0, k1, k2⟩ := Lwc.out.three
      obtain ⟨k0', k1', k2'⟩ := Mwc.out.three
      have ks := Swc.out.oneP
      cases v2 : fin .f32 s
      · have HN := Lib.hid (HOC.out (mxC_4 v2))
        clear v2
        have p0 := (Rwc.out.2 0 _ rfl).1
        have q0 := (Rwc.out.2 0 _ rfl).2
        have p1 := (Rwc.out.2 1 _ rfl).1
        have q1 := (Rwc.out.2 1 _ rfl).2
        have p2 := (Rwc.out.2 2 _ rfl).1
        have q2 := (Rwc.out.2 2 _ rfl).2
        go_wp2
        refine bodyPost_ret (v := .tuple #[.agg #[.slice none 0 0, .slice none 0 0, .slice none 0 0], .bool false]) ?_ rfl ?_
        · simp [results, Try.results31, go_sem, p0, p1, p2]
        · rw [HN.out]
          exact ⟨none, none, none, 0, 0, 0, 0, 1, 2, rfl, OwnQ.none _ _, (((Bwc.out).setCell (p := ⟨w.heap.size + 3, 0, none⟩) (by show w.heap.size ≤ w.heap.size + 3; omega) _).setCell (p := ⟨w.heap.size + 3, 1, none⟩) (by show w.heap.size ≤ w.heap.size + 3; omega) _).setCell (p := ⟨w.heap.size + 3, 2, none⟩) (by show w.heap.size ≤ w.heap.size + 3; omega) _⟩
      · have V2 := Lib.hid v2
        clear v2
        go_wp2_with fail
        refine (lib_EqualP A A' a.length a'.length ca ca' a a' _ (HP.out.1.below Bwc.out) (HP'.out.1.below Bwc.out) rfl rfl (by have := hn; unfold Few at this; omega) (by have := hn'; unfold Few at this; omega)).mono ?_
        rintro e w1 ⟨rfl, n4, hw⟩
        have b1 : Below wc.heap.size wc w1 := by rw [hw]; exact below_draws (Below.refl _ _) _
        clear hw
        clear k0 k1 k2 k0' k1' k2' ks
        have Lw1 := Lib.hid (Lwc.out.below b1)
        have Mw1 := Lib.hid (Mwc.out.below b1)
        have Sw1 := Lib.hid (Swc.out.below b1)
        have Rw1 := Lib.hid (Rwc.out.below b1)
        have Bw1 : Hid (Below w.heap.size w w1) := Lib.hid (below_of Bwc.out Bwc.out.size b1)
        have Zw1 : Hid (w.heap.size + 4 ≤ w1.heap.size) := Lib.hid (by have := b1.size; have := Zwc.out; omega)
        clear b1
        obtain ⟨k0, k1, k2⟩ := Lw1.out.three
        obtain ⟨k0', k1', k2'⟩ := Mw1.out.three
        have ks := Sw1.out.oneP
        cases v3 : (decide (a.length = a'.length) && eqvK a a' a.length)
        · have HN := Lib.hid (HO2.out v3)
          clear v3
          have p0 := (Rw1.out.2 0 _ rfl).1
          have q0 := (Rw1.out.2 0 _ rfl).2
          have p1 := (Rw1.out.2 1 _ rfl).1
          have q1 := (Rw1.out.2 1 _ rfl).2
          have p2 := (Rw1.out.2 2 _ rfl).1
          have q2 := (Rw1.out.2 2 _ rfl).2
          go_wp2
          refine bodyPost_ret (v := .tuple #[.agg #[.slice none 0 0, .slice none 0 0, .slice none 0 0], .bool false]) ?_ rfl ?_
          · simp [results, Try.results31, go_sem, p0, p1, p2]
          · rw [HN.out]
            exact ⟨none, none, none, 0, 0, 0, 0, 1, 2, rfl, OwnQ.none _ _, (((Bw1.out).setCell (p := ⟨w.heap.size + 3, 0, none⟩) (by show w.heap.size ≤ w.heap.size + 3; omega) _).setCell (p := ⟨w.heap.size + 3, 1, none⟩) (by show w.heap.size ≤ w.heap.size + 3; omega) _).setCell (p := ⟨w.heap.size + 3, 2, none⟩) (by show w.heap.size ≤ w.heap.size + 3; omega) _⟩
        · rw [Bool.and_eq_true] at v3
          have hle : a.length = a'.length := of_decide_eq_true v3.1
          have HO := Lib.hid (HOY.out (mxC_y V0.out V1.out hle V2.out) v3.2)
          obtain ⟨s1, s2, s3, s4⟩ := sized_of V0.out
          obtain ⟨t1, t2, t3, t4⟩ := sized_of V1.out
          have HT : Hid (l.length = a.length ∧ d.length = a.length ∧ l'.length = a.length ∧ d'.length = a.length) := Lib.hid (by omega)
          have HCL : Hid (∀ W, Fl W L l → Fl W L' l' → BlkL W (w.heap.size + 2) [.float .f32 s] → Calls Try.prog 83 #[.slice L l.length cl, .slice L' l'.length cl', .pointer (some ⟨w.heap.size + 2, 0, none⟩)] W fun e w' => ∃ c g zs, e = .returned (.slice (some ⟨g, 0, none⟩) zs.length c) ∧ Own w' g zs ∧ W.heap.size ≤ g ∧ CL zs Y ∧ Below W.heap.size W w') := Lib.hid (fun W h1 h2 h3 => by rw [HYE.out]; exact i_mixed L L' _ _ cl cl' s _ l l' W h1 h2 (by have := HT.out; omega) (by have := HT.out; omega) rfl (by have := HT.out; omega) h3)
          have HCD : Hid (∀ W, Fl W D d → Fl W D' d' → BlkL W (w.heap.size + 2) [.float .f32 s] → Calls Try.prog 83 #[.slice D d.length cd, .slice D' d'.length cd', .pointer (some ⟨w.heap.size + 2, 0, none⟩)] W fun e w' => ∃ c g zs, e = .returned (.slice (some ⟨g, 0, none⟩) zs.length c) ∧ Own w' g zs ∧ W.heap.size ≤ g ∧ CL zs Z ∧ Below W.heap.size W w') := Lib.hid (fun W h1 h2 h3 => by rw [HZE.out]; exact i_mixed D D' _ _ cd cd' s _ d d' W h1 h2 (by have := HT.out; omega) (by have := HT.out; omega) rfl (by have := HT.out; omega) h3)
          have HLEN : Hid (a.length ≤ 24 ∧ Y.length ≤ 24 ∧ Z.length ≤ 24) := Lib.hid (by rw [HYE.out, HZE.out, mxL_length, mxL_length]; omega)
          clear v3 hle s3 s4 t1 t2 t3 t4 k0 k1 k2 k0' k1' k2' ks
          have L0 := Lw1
          have L0' := Mw1
          have LS := Sw1
          have LR := Rw1
          have B1 := Bw1
          have z1 := Zw1.out
          go_wp2_with fail
          have hFin := PFin.below ((w.heap.size + 3)) w1.heap.size O a Y Z
          refine wp_region_inv7 (fun iq wv v => match iq with
            | 0 => v = .pointer (some ⟨w.heap.size, 0, none⟩)
            | 1 => v = .slice A a.length ca
            | 2 => ∃ cp bk xs, v = .slice (some ⟨bk, 0, none⟩) xs.length cp ∧ Own wv bk xs ∧ w1.heap.size ≤ bk ∧ CL xs a
            | 3 => v = .func (.func 83) #[] #[.pointer (some ⟨w.heap.size + 2, 0, none⟩)]
            | 4 => v = .pointer (some ⟨w.heap.size, 1, none⟩)
            | 5 => v = .slice L l.length cl
            | 6 => v = .pointer (some ⟨(w.heap.size + 1), 1, none⟩)
            | 7 => v = .slice L' l'.length cl'
            | 8 => ∃ cp bk xs, v = .slice (some ⟨bk, 0, none⟩) xs.length cp ∧ Own wv bk xs ∧ w1.heap.size ≤ bk ∧ CL xs Y
            | 9 => v = .func (.func 83) #[] #[.pointer (some ⟨w.heap.size + 2, 0, none⟩)]
            | 10 => v = .pointer (some ⟨w.heap.size, 2, none⟩)
            | 11 => v = .slice D d.length cd
            | 12 => v = .pointer (some ⟨(w.heap.size + 1), 2, none⟩)
            | 13 => v = .slice D' d'.length cd'
            | 14 => ∃ cp bk xs, v = .slice (some ⟨bk, 0, none⟩) xs.length cp ∧ Own wv bk xs ∧ w1.heap.size ≤ bk ∧ CL xs Z
            | 15 => ∃ da ka xa db kb xb dc kc xc, v = .agg #[.slice (some ⟨ka, 0, none⟩) xa.length da, .slice (some ⟨kb, 0, none⟩) xb.length db, .slice (some ⟨kc, 0, none⟩) xc.length dc] ∧ OwnQ wv w1.heap.size (some ⟨ka, 0, none⟩) (some ⟨kb, 0, none⟩) (some ⟨kc, 0, none⟩) ka kb kc xa xb xc ∧ (CL xa a ∧ CL xb Y ∧ CL xc Z)
            | 16 => PGiv w1.heap.size O a Y Z wv v
            | 17 => PAgg w1.heap.size O a Y Z wv v
            | 18 => v = .bool O
            | 19 => True
            | 20 => v = .bool O
            | _ => False) (fun listed aa ww => StC w1 ((w.heap.size + 3)) 3 19 (PFin ((w.heap.size + 3)) w1.heap.size O a Y Z) listed ww ∧ AP [34, 40, 46] aa ww) (fun wa wb => Turn wa wb (fun b => b = (w.heap.size + 3))) ?hmono (by kernel_rfl) (by kernel_rfl) ⟨StC.start LR.out rfl, AP.start (by rfl)⟩ ?hop ?hend
          case hmono =>
            intro i wa wb v hR hV
            rcases i with _ | _ | _ | _ | _ | _ | _ | _ | _ | _ | _ | _ | _ | _ | _ | _ | _ | _ | _ | _ | _ | i
            · exact hV
            · exact hV
            · obtain ⟨cp, bk, xs, rfl, ho, hb, hr⟩ := hV; exact ⟨cp, bk, xs, rfl, ho.turn hR (by show ¬ bk = _; omega), hb, hr⟩
            · exact hV
            · exact hV
            · exact hV
            · exact hV
            · exact hV
            · obtain ⟨cp, bk, xs, rfl, ho, hb, hr⟩ := hV; exact ⟨cp, bk, xs, rfl, ho.turn hR (by show ¬ bk = _; omega), hb, hr⟩
            · exact hV
            · exact hV
            · exact hV
            · exact hV
            · exact hV
            · obtain ⟨cp, bk, xs, rfl, ho, hb, hr⟩ := hV; exact ⟨cp, bk, xs, rfl, ho.turn hR (by show ¬ bk = _; omega), hb, hr⟩
            · obtain ⟨da, ka, xa, db, kb, xb, dc, kc, xc, rfl, ho, hr⟩ := hV; exact ⟨da, ka, xa, db, kb, xb, dc, kc, xc, rfl, OwnQ.turn' ho hR (fun b h1 _ hb => by have hb : b = _ := hb; omega), hr⟩
            · exact hV.turn hR (by omega)
            · exact hV.turn hR (by omega)
            · exact hV
            · exact hV
            · exact hV
            · exact hV
          case hop =>
            intro q o hq listed act w3 hI hCA hnot hcl hall
            obtain ⟨hC, hA⟩ := hCA
            have hlen : listed.size = 21 := hI.len
            obtain ⟨kx0, kx1, kx2⟩ := (L0.out.turnS hC.1 (by intro e; omega)).three
            obtain ⟨ky0, ky1, ky2⟩ := (L0'.out.turnS hC.1 (by intro e; omega)).three
            rcases q with _ | _ | _ | _ | _ | _ | _ | _ | _ | _ | _ | _ | _ | _ | _ | _ | _ | _ | _ | _ | _ | q
            · simp at hq; subst hq
              have g3 : act.tmps[3]?.getD undef = .pointer (some ⟨w.heap.size, 0, none⟩) := hI.kept 3 (by kernel_rfl)
              have hA2 := fun v => AP.other (k := 32) hA (by decide) v
              clear hI hall hnot hcl
              refine .inl ⟨wanted_none rfl, ?_⟩
              unfold Oper.wp
              go_simp
              all_goals exact ⟨_, rfl, Turn.refl _ _, rfl, StC.step (k := 0) hC (Below.refl _ _) hFin (by decide) (by rw [hlen]; decide), hA2 _⟩
            · simp at hq; subst hq
              have g32 : act.tmps[32]?.getD undef = .pointer (some ⟨w.heap.size, 0, none⟩) := hI.has 0 32 rfl (hall ⟨0, .data⟩ (by simp) rfl)
              have hA2 := fun v => AP.other (k := 33) hA (by decide) v
              clear hI hall hnot hcl
              refine .inl ⟨wanted_none rfl, ?_⟩
              unfold Oper.wp
              go_simp
              all_goals exact ⟨_, rfl, Turn.refl _ _, rfl, StC.step (k := 1) hC (Below.refl _ _) hFin (by decide) (by rw [hlen]; decide), hA2 _⟩
            · simp at hq; subst hq
              have g33 : act.tmps[33]?.getD undef = .slice A a.length ca := hI.has 1 33 rfl (hall ⟨1, .data⟩ (by simp) rfl)
              clear hI hall hnot hcl
              refine .inl ⟨wanted_none rfl, ?_⟩
              unfold Oper.wp
              go_simp
              refine (lib_CloneP A ca a w3 (HP.out.1.turnW B1.out hC.1 (by omega)) (by omega) (by omega)).mono ?_
              rintro e w4 ⟨cp, bk, rfl, ho, hlo, b4⟩
              have hz := hC.1.1
              exact ⟨_, rfl, Turn.of_below b4 _, ⟨cp, bk, a, rfl, ho, by omega, CL.rfl' _⟩, StC.step (k := 2) hC b4 hFin (by decide) (by rw [hlen]; decide), AP.new hA b4.size hlo ho.1⟩
            · simp at hq; subst hq
              have g8 : act.tmps[8]?.getD undef = .func (.func 83) #[] #[.pointer (some ⟨w.heap.size + 2, 0, none⟩)] := hI.kept 8 (by kernel_rfl)
              have hA2 := fun v => AP.other (k := 35) hA (by decide) v
              clear hI hall hnot hcl
              refine .inl ⟨wanted_none rfl, ?_⟩
              unfold Oper.wp
              go_simp
              all_goals exact ⟨_, rfl, Turn.refl _ _, rfl, StC.step (k := 3) hC (Below.refl _ _) hFin (by decide) (by rw [hlen]; decide), hA2 _⟩
            · simp at hq; subst hq
              have g3 : act.tmps[3]?.getD undef = .pointer (some ⟨w.heap.size, 0, none⟩) := hI.kept 3 (by kernel_rfl)
              have hA2 := fun v => AP.other (k := 36) hA (by decide) v
              clear hI hall hnot hcl
              refine .inl ⟨wanted_none rfl, ?_⟩
              unfold Oper.wp
              go_simp
              all_goals exact ⟨_, rfl, Turn.refl _ _, rfl, StC.step (k := 4) hC (Below.refl _ _) hFin (by decide) (by rw [hlen]; decide), hA2 _⟩
            · simp at hq; subst hq
              have g36 : act.tmps[36]?.getD undef = .pointer (some ⟨w.heap.size, 1, none⟩) := hI.has 4 36 rfl (hall ⟨4, .data⟩ (by simp) rfl)
              have hA2 := fun v => AP.other (k := 37) hA (by decide) v
              clear hI hall hnot hcl
              refine .inl ⟨wanted_none rfl, ?_⟩
              unfold Oper.wp
              go_simp
              all_goals exact ⟨_, rfl, Turn.refl _ _, rfl, StC.step (k := 5) hC (Below.refl _ _) hFin (by decide) (by rw [hlen]; decide), hA2 _⟩
            · simp at hq; subst hq
              have g4 : act.tmps[4]?.getD undef = .pointer (some ⟨(w.heap.size + 1), 0, none⟩) := hI.kept 4 (by kernel_rfl)
              have hA2 := fun v => AP.other (k := 38) hA (by decide) v
              clear hI hall hnot hcl
              refine .inl ⟨wanted_none rfl, ?_⟩
              unfold Oper.wp
              go_simp
              all_goals exact ⟨_, rfl, Turn.refl _ _, rfl, StC.step (k := 6) hC (Below.refl _ _) hFin (by decide) (by rw [hlen]; decide), hA2 _⟩
            · simp at hq; subst hq
              have g38 : act.tmps[38]?.getD undef = .pointer (some ⟨(w.heap.size + 1), 1, none⟩) := hI.has 6 38 rfl (hall ⟨6, .data⟩ (by simp) rfl)
              have hA2 := fun v => AP.other (k := 39) hA (by decide) v
              clear hI hall hnot hcl
              refine .inl ⟨wanted_none rfl, ?_⟩
              unfold Oper.wp
              go_simp
              all_goals exact ⟨_, rfl, Turn.refl _ _, rfl, StC.step (k := 7) hC (Below.refl _ _) hFin (by decide) (by rw [hlen]; decide), hA2 _⟩
            · simp at hq; subst hq
              have g35 : act.tmps[35]?.getD undef = .func (.func 83) #[] #[.pointer (some ⟨w.heap.size + 2, 0, none⟩)] := hI.has 3 35 rfl (hall ⟨3, .data⟩ (by simp) rfl)
              have g37 : act.tmps[37]?.getD undef = .slice L l.length cl := hI.has 5 37 rfl (hall ⟨5, .data⟩ (by simp) rfl)
              have g39 : act.tmps[39]?.getD undef = .slice L' l'.length cl' := hI.has 7 39 rfl (hall ⟨7, .data⟩ (by simp) rfl)
              clear hI hall hnot hcl
              refine .inl ⟨wanted_none rfl, ?_⟩
              unfold Oper.wp
              go_simp
              refine (HCL.out w3 (HP.out.2.1.turnW B1.out hC.1 (by omega)) (HP'.out.2.1.turnW B1.out hC.1 (by omega)) (LS.out.turnS hC.1 (by intro e; omega))).mono ?_
              rintro e w4 ⟨cp, bk, xs, rfl, ho, hlo, hcx, b4⟩
              have hz := hC.1.1
              exact ⟨_, rfl, Turn.of_below b4 _, ⟨cp, bk, xs, rfl, ho, by omega, hcx⟩, StC.step (k := 8) hC b4 hFin (by decide) (by rw [hlen]; decide), AP.new hA b4.size hlo ho.1⟩
            · simp at hq; subst hq
              have g8 : act.tmps[8]?.getD undef = .func (.func 83) #[] #[.pointer (some ⟨w.heap.size + 2, 0, none⟩)] := hI.kept 8 (by kernel_rfl)
              have hA2 := fun v => AP.other (k := 41) hA (by decide) v
              clear hI hall hnot hcl
              refine .inl ⟨wanted_none rfl, ?_⟩
              unfold Oper.wp
              go_simp
              all_goals exact ⟨_, rfl, Turn.refl _ _, rfl, StC.step (k := 9) hC (Below.refl _ _) hFin (by decide) (by rw [hlen]; decide), hA2 _⟩
            · simp at hq; subst hq
              have g3 : act.tmps[3]?.getD undef = .pointer (some ⟨w.heap.size, 0, none⟩) := hI.kept 3 (by kernel_rfl)
              have hA2 := fun v => AP.other (k := 42) hA (by decide) v
              clear hI hall hnot hcl
              refine .inl ⟨wanted_none rfl, ?_⟩
              unfold Oper.wp
              go_simp
              all_goals exact ⟨_, rfl, Turn.refl _ _, rfl, StC.step (k := 10) hC (Below.refl _ _) hFin (by decide) (by rw [hlen]; decide), hA2 _⟩
            · simp at hq; subst hq
              have g42 : act.tmps[42]?.getD undef = .pointer (some ⟨w.heap.size, 2, none⟩) := hI.has 10 42 rfl (hall ⟨10, .data⟩ (by simp) rfl)
              have hA2 := fun v => AP.other (k := 43) hA (by decide) v
              clear hI hall hnot hcl
              refine .inl ⟨wanted_none rfl, ?_⟩
              unfold Oper.wp
              go_simp
              all_goals exact ⟨_, rfl, Turn.refl _ _, rfl, StC.step (k := 11) hC (Below.refl _ _) hFin (by decide) (by rw [hlen]; decide), hA2 _⟩
            · simp at hq; subst hq
              have g4 : act.tmps[4]?.getD undef = .pointer (some ⟨(w.heap.size + 1), 0, none⟩) := hI.kept 4 (by kernel_rfl)
              have hA2 := fun v => AP.other (k := 44) hA (by decide) v
              clear hI hall hnot hcl
              refine .inl ⟨wanted_none rfl, ?_⟩
              unfold Oper.wp
              go_simp
              all_goals exact ⟨_, rfl, Turn.refl _ _, rfl, StC.step (k := 12) hC (Below.refl _ _) hFin (by decide) (by rw [hlen]; decide), hA2 _⟩
            · simp at hq; subst hq
              have g44 : act.tmps[44]?.getD undef = .pointer (some ⟨(w.heap.size + 1), 2, none⟩) := hI.has 12 44 rfl (hall ⟨12, .data⟩ (by simp) rfl)
              have hA2 := fun v => AP.other (k := 45) hA (by decide) v
              clear hI hall hnot hcl
              refine .inl ⟨wanted_none rfl, ?_⟩
              unfold Oper.wp
              go_simp
              all_goals exact ⟨_, rfl, Turn.refl _ _, rfl, StC.step (k := 13) hC (Below.refl _ _) hFin (by decide) (by rw [hlen]; decide), hA2 _⟩
            · simp at hq; subst hq
              have g41 : act.tmps[41]?.getD undef = .func (.func 83) #[] #[.pointer (some ⟨w.heap.size + 2, 0, none⟩)] := hI.has 9 41 rfl (hall ⟨9, .data⟩ (by simp) rfl)
              have g43 : act.tmps[43]?.getD undef = .slice D d.length cd := hI.has 11 43 rfl (hall ⟨11, .data⟩ (by simp) rfl)
              have g45 : act.tmps[45]?.getD undef = .slice D' d'.length cd' := hI.has 13 45 rfl (hall ⟨13, .data⟩ (by simp) rfl)
              clear hI hall hnot hcl
              refine .inl ⟨wanted_none rfl, ?_⟩
              unfold Oper.wp
              go_simp
              refine (HCD.out w3 (HP.out.2.2.turnW B1.out hC.1 (by omega)) (HP'.out.2.2.turnW B1.out hC.1 (by omega)) (LS.out.turnS hC.1 (by intro e; omega))).mono ?_
              rintro e w4 ⟨cp, bk, xs, rfl, ho, hlo, hcx, b4⟩
              have hz := hC.1.1
              exact ⟨_, rfl, Turn.of_below b4 _, ⟨cp, bk, xs, rfl, ho, by omega, hcx⟩, StC.step (k := 14) hC b4 hFin (by decide) (by rw [hlen]; decide), AP.new hA b4.size hlo ho.1⟩
            · simp at hq; subst hq
              obtain ⟨cp2, bk2, xs2, g34, h2a, h2b, h2c⟩ := hI.has 2 34 rfl (hall ⟨2, .data⟩ (by simp) rfl)
              obtain ⟨cp8, bk8, xs8, g40, h8a, h8b, h8c⟩ := hI.has 8 40 rfl (hall ⟨8, .data⟩ (by simp) rfl)
              obtain ⟨cp14, bk14, xs14, g46, h14a, h14b, h14c⟩ := hI.has 14 46 rfl (hall ⟨14, .data⟩ (by simp) rfl)
              have hA2 := fun v => AP.other (k := 47) hA (by decide) v
              clear hI hall hnot hcl
              refine .inl ⟨wanted_none rfl, ?_⟩
              unfold Oper.wp
              go_simp
              have e12 := (hA.2 34 (by decide) 40 (by decide) (by decide) _ _ _ _ _ _ _ _ (by rw [Array.getD_eq_getD_getElem?]; exact g34) (by rw [Array.getD_eq_getD_getElem?]; exact g40))
              have e13 := (hA.2 34 (by decide) 46 (by decide) (by decide) _ _ _ _ _ _ _ _ (by rw [Array.getD_eq_getD_getElem?]; exact g34) (by rw [Array.getD_eq_getD_getElem?]; exact g46))
              have e23 := (hA.2 40 (by decide) 46 (by decide) (by decide) _ _ _ _ _ _ _ _ (by rw [Array.getD_eq_getD_getElem?]; exact g40) (by rw [Array.getD_eq_getD_getElem?]; exact g46))
              exact ⟨_, rfl, Turn.refl _ _, ⟨cp2, bk2, xs2, cp8, bk8, xs8, cp14, bk14, xs14, rfl, ⟨Own.o h2a h2b, Own.o h8a h8b, Own.o h14a h14b, e12, e13, e23⟩, h2c, h8c, h14c⟩, StC.step (k := 15) hC (Below.refl _ _) hFin (by decide) (by rw [hlen]; decide), hA2 _⟩
            · simp at hq; subst hq
              obtain ⟨da15, ka15, xa15, db15, kb15, xb15, dc15, kc15, xc15, g47, h15a, h15b⟩ := hI.has 15 47 rfl (hall ⟨15, .data⟩ (by simp) rfl)
              have hA2 := fun v => AP.other (k := 48) hA (by decide) v
              clear hI hall hnot hcl
              refine .inl ⟨wanted_none rfl, ?_⟩
              unfold Oper.wp
              go_simp
              refine (i_GiveQ _ _ _ _ _ _ _ _ _ w1.heap.size xa15 xb15 xc15 a Y Z O w3 h15a h15b.1 h15b.2.1 h15b.2.2 HO.out (by have h1 := h15b.1.1; have h2 := h15b.2.1.1; have h3 := h15b.2.2.1; have h4 := HLEN.out; unfold Few; omega)).mono ?_
              rintro e w4 ⟨Ra, Rb, Rc, da, db, dc, ka, kb, kc, rfl, ho, b4⟩
              exact ⟨_, rfl, Turn.of_below b4 _, PGiv.mk' ho, StC.step (k := 16) hC b4 hFin (by decide) (by rw [hlen]; decide), (hA2 _).grow b4.size⟩
            · simp at hq; subst hq
              obtain ⟨Ra16, Rb16, Rc16, da16, db16, dc16, ka16, kb16, kc16, g48, h16a⟩ := hI.has 16 48 rfl (hall ⟨16, .data⟩ (by simp) rfl)
              have hA2 := fun v => AP.other (k := 49) hA (by decide) v
              clear hI hall hnot hcl
              refine .inl ⟨wanted_none rfl, ?_⟩
              unfold Oper.wp
              go_simp
              exact ⟨_, rfl, Turn.refl _ _, PAgg.mk' h16a, StC.step (k := 17) hC (Below.refl _ _) hFin (by decide) (by rw [hlen]; decide), hA2 _⟩
            · simp at hq; subst hq
              obtain ⟨Ra16, Rb16, Rc16, da16, db16, dc16, ka16, kb16, kc16, g48, h16a⟩ := hI.has 16 48 rfl (hall ⟨16, .data⟩ (by simp) rfl)
              have hA2 := fun v => AP.other (k := 50) hA (by decide) v
              clear hI hall hnot hcl
              refine .inl ⟨wanted_none rfl, ?_⟩
              unfold Oper.wp
              go_simp
              all_goals exact ⟨_, rfl, Turn.refl _ _, rfl, StC.step (k := 18) hC (Below.refl _ _) hFin (by decide) (by rw [hlen]; decide), hA2 _⟩
            · simp at hq; subst hq
              have g6 : act.tmps[6]?.getD undef = .pointer (some ⟨(w.heap.size + 3), 0, none⟩) := hI.kept 6 (by kernel_rfl)
              obtain ⟨Ra17, Rb17, Rc17, da17, db17, dc17, ka17, kb17, kc17, g49, h17a⟩ := hI.has 17 49 rfl (hall ⟨17, .data⟩ (by simp) rfl)
              have hA2 := fun v => AP.skip hA v
              clear hI hall hnot hcl
              refine .inl ⟨wanted_none rfl, ?_⟩
              unfold Oper.wp
              go_simp
              obtain ⟨vs, hvs, hvl⟩ := hC.2.1
              match vs, hvs, hvl with
              | [a0, a1, a2], hvs, _ =>
              have p0 := (hvs.2 0 _ rfl).1
              have q0 := (hvs.2 0 _ rfl).2
              have p1 := (hvs.2 1 _ rfl).1
              have q1 := (hvs.2 1 _ rfl).2
              have p2 := (hvs.2 2 _ rfl).1
              have q2 := (hvs.2 2 _ rfl).2
              go_simp
              have hf := (((hvs.set (i := 0) (by simp) (.slice Ra17 (gLp O a).length da17)).set (i := 1) (by simp) (.slice Rb17 (gLp O Y).length db17)).set (i := 2) (by simp) (.slice Rc17 (gLp O Z).length dc17))
              have ht := (((Turn.set w3 (B := (w.heap.size + 3)) ⟨(w.heap.size + 3), 0, none⟩ rfl (.slice Ra17 (gLp O a).length da17)).trans (Turn.set _ (B := (w.heap.size + 3)) ⟨(w.heap.size + 3), 1, none⟩ rfl (.slice Rb17 (gLp O Y).length db17))).trans (Turn.set _ (B := (w.heap.size + 3)) ⟨(w.heap.size + 3), 2, none⟩ rfl (.slice Rc17 (gLp O Z).length dc17)))
              have hn := (((h17a.setC (p := ⟨(w.heap.size + 3), 0, none⟩) (by show (w.heap.size + 3) < _; omega) (.slice Ra17 (gLp O a).length da17)).setC (p := ⟨(w.heap.size + 3), 1, none⟩) (by show (w.heap.size + 3) < _; omega) (.slice Rb17 (gLp O Y).length db17)).setC (p := ⟨(w.heap.size + 3), 2, none⟩) (by show (w.heap.size + 3) < _; omega) (.slice Rc17 (gLp O Z).length dc17))
              have hst := StC.store (st := 19) hC ht hf rfl ⟨Ra17, Rb17, Rc17, da17, db17, dc17, ka17, kb17, kc17, hf, hn⟩
              have hap := (hA2 undef).grow ht.1
              first | exact ⟨ht, trivial, hst, hap⟩ | exact ⟨ht, hst, hap⟩
            · simp at hq; subst hq
              have g50 : act.tmps[50]?.getD undef = .bool O := hI.has 18 50 rfl (hall ⟨18, .data⟩ (by simp) rfl)
              have hA2 := fun v => AP.other (k := 7) hA (by decide) v
              clear hI hall hnot hcl
              refine .inl ⟨wanted_none rfl, ?_⟩
              unfold Oper.wp
              go_simp
              all_goals exact ⟨_, rfl, Turn.refl _ _, rfl, StC.step (k := 20) hC (Below.refl _ _) hFin (by decide) (by rw [hlen]; decide), hA2 _⟩
            · simp at hq
          case hend =>
            intro listed act w3 hI hCA hall
            obtain ⟨hC, hA⟩ := hCA
            have hlen : listed.size = 21 := hI.len
            obtain ⟨kx0, kx1, kx2⟩ := (L0.out.turnS hC.1 (by intro e; omega)).three
            obtain ⟨ky0, ky1, ky2⟩ := (L0'.out.turnS hC.1 (by intro e; omega)).three
            obtain ⟨Ra, Rb, Rc, da, db, dc, ka, kb, kc, hf, hown⟩ := hC.2.2 (hall 19 (by decide))
            have ht := hC.1
            have g6 : act.tmps[6]?.getD undef = .pointer (some ⟨(w.heap.size + 3), 0, none⟩) := hI.kept 6 (by kernel_rfl)
            have g7 : act.tmps[7]?.getD undef = .bool O := hI.has 20 7 rfl (hall 20 (by decide))
            have hd := hI.defers
            clear hI hall hFin hC hA
            have c0 := (hf.2 0 _ rfl).1
            have c1 := (hf.2 1 _ rfl).1
            have c2 := (hf.2 2 _ rfl).1
            go_wp2
            refine bodyPost_ret (v := .tuple #[.agg #[.slice Ra (gLp O a).length da, .slice Rb (gLp O Y).length db, .slice Rc (gLp O Z).length dc], .bool O]) (by simp [results, Try.results31, g6, g7, c0, c1, c2, go_sem]) (by first | rfl | exact hd) ?_
            have hbw := ht.2.2.2 w B1.out (fun b hb => by have hb : b = (w.heap.size + 3) := hb; omega)
            first | exact ⟨Ra, Rb, Rc, da, db, dc, ka, kb, kc, rfl, hown.base B1.out.size, hbw⟩ | exact ⟨Ra, Rb, Rc, ⟨da, db, dc, rfl⟩, ⟨ka, kb, kc, hown.base B1.out.size⟩, hbw⟩
end Go.Proofs.Ytplofbkollhjpaa
