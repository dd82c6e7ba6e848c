/- CutProfile: the program's side. No statement is proved here. -/
import Derived.Test.YtplofbkollhjpaaPim
import Derived.Test.YtplofbkollhjpaaCutP
import Derived.Test.YtplofbkollhjpaaCutS
namespace Go.Proofs.Ytplofbkollhjpaa
open Go Go.RowKit
set_option maxHeartbeats 4000000 in
set_option maxRecDepth 100000 in
theorem lib_CloneG (b off cap : Nat) (xs : List Nat) (w : World) (h : Fl w (some ⟨b, off, none⟩) xs) (hn : xs.length ≤ 1048576) :
    Calls Try.prog 76 #[.slice (some ⟨b, off, none⟩) xs.length cap] w fun e w' => ∃ (A' : Option Addr) (c g : Nat), e = .returned (.slice A' xs.length c) ∧ OwnO w' w.heap.size A' g xs ∧ Below w.heap.size w w' := by
  obtain ⟨i0, hi, hz0, hz1, hz2⟩ := info_parts f32_info
  have HF := Lib.hid h; clear h
  have HN := Lib.hid hn
  have HG : Hid (Gr (w.alloc (.cells #[] 31)) w.heap.size (.slice (some ⟨w.heap.size, 0, none⟩) 0 0) []) := Lib.hid (Gr.made w w.heap.size 0 #[] (Nat.le_refl _) (Nat.zero_le _) rfl)
  have heq : ∀ W : World, (binOp .eql 22 (.slice (some ⟨b, off, none⟩) xs.length cap) (.slice none 0 0)).run Try.prog W = .ok (.bool false) W := fun W => Go.Lib.run_eql_slice_nil W _ _ _ _ _ _ _ Try.underlying22
  go_enter Try.func76, Try.ntmps76
  go_wp2_with (first
    | (at_builtin; refine wpList_append_own _ rfl _ _ 22 rfl w.heap.size 31 i0 (.float .f32 0) 1 4 Try.underlying22 hi hz0 hz1 hz2 rfl (by decide) _ _ _ rfl HG.out ⟨b, off, none⟩ xs.length cap (xs.map (Value.float .f32)) rfl ?c1 ?c2 ?c3 ?c4 ?c5 ?c6 ?_)
    | fail)
  case c1 => simp
  case c2 => exact (HF.out.below ((Below.refl _ _).alloc (Nat.le_refl _) _)).newsP
  case c3 => exact oneFP xs
  case c4 => have := HN.out; unfold maxLen; simp; omega
  case c5 => have := HN.out; simp; omega
  case c6 => simp
  · intro v' w7 hown' hgrow _
    obtain ⟨g2, b2⟩ := Gr.moreP (w0 := w) (B0 := w.heap.size) (m := xs.length) HG.out ((Below.refl _ _).alloc (Nat.le_refl _) _) (Nat.le_refl _) rfl (by simpa using hown') hgrow
    obtain ⟨A', c, g, rfl, ho⟩ := Gr.own g2
    have HO := Lib.hid ho
    have HB := Lib.hid b2
    clear hown' hgrow g2 b2 ho
    rw [List.nil_append] at HO
    go_wp2
    go_ret
    exact ⟨A', c, g, by simp, HO.out, HB.out⟩
set_option maxHeartbeats 16000000 in
set_option maxRecDepth 100000 in
theorem i_CutProfile (A L D : Option Addr) (ca cl cd : Nat) (a l d : List Nat) (lo hi : Nat) (w : World) (h : Pf w A L D a l d) (hn : Few a l d) (hca : a.length ≤ ca) (hcl : l.length ≤ cl) (hcd : d.length ≤ cd) :
    Calls Try.prog 33 #[.agg #[.slice A a.length ca, .slice L l.length cl, .slice D d.length cd], .float .f32 lo, .float .f32 hi] w fun e w' => ∃ (R1 R2 R3 : Option Addr) (c1 c2 c3 g1 g2 g3 : Nat), e = .returned (.tuple #[.agg #[.slice R1 (gLp (cutO a l d lo hi) (cutL a a lo hi)).length c1, .slice R2 (gLp (cutO a l d lo hi) (cutL a l lo hi)).length c2, .slice R3 (gLp (cutO a l d lo hi) (cutL a d lo hi)).length c3], .bool (cutO a l d lo hi)]) ∧ OwnQ w' w.heap.size R1 R2 R3 g1 g2 g3 (gLp (cutO a l d lo hi) (cutL a a lo hi)) (gLp (cutO a l d lo hi) (cutL a l lo hi)) (gLp (cutO a l d lo hi) (cutL a d lo hi)) ∧ Below w.heap.size w w' := by
  have HP := Lib.hid h; clear h
  have HCP : Hid (a.length ≤ ca ∧ l.length ≤ cl ∧ d.length ≤ cd) := Lib.hid ⟨hca, hcl, hcd⟩
  clear hca hcl hcd
  have HON : Hid (validP a l d = false → cutO a l d lo hi = false) := Lib.hid (fun v0 => by unfold cutO; rw [v0]; rfl)
  have HOY : Hid (validP a l d = true → cutO a l d lo hi = validP (cutL a a lo hi) (cutL a l lo hi) (cutL a d lo hi)) := Lib.hid (fun v0 => by unfold cutO; rw [v0]; rfl)
  generalize cutO a l d lo hi = O at HON HOY ⊢
  generalize hX : (cutL a a lo hi) = X at HOY ⊢
  generalize hY : (cutL a l lo hi) = Y at HOY ⊢
  generalize hZ : (cutL a d lo hi) = Z at HOY ⊢
  have HXE := Lib.hid hX.symm
  have HYE := Lib.hid hY.symm
  have HZE := Lib.hid hZ.symm
  clear hX hY hZ
  obtain ⟨w0, hw0⟩ : ∃ x, x = (w.alloc (.cells #[.slice A a.length ca, .slice L l.length cl, .slice D d.length cd] 24)).alloc (.cells #[.slice none 0 0, .slice none 0 0, .slice none 0 0] 24) := ⟨_, rfl⟩
  have K0 : Hid (BlkL w0 w.heap.size [.slice A a.length ca, .slice L l.length cl, .slice D d.length cd]) := Lib.hid (by rw [hw0]; exact (blkL_at w #[.slice A a.length ca, .slice L l.length cl, .slice D d.length cd] _ rfl).alloc _)
  have KR : Hid (BlkL w0 (w.heap.size + 1) [.slice none 0 0, .slice none 0 0, .slice none 0 0]) := Lib.hid (by rw [hw0]; exact blkL_at (w.alloc _) #[.slice none 0 0, .slice none 0 0, .slice none 0 0] _ (by simp))
  have B0 : Hid (Below w.heap.size w w0) := Lib.hid (by rw [hw0]; exact ((Below.refl _ _).alloc (Nat.le_refl _) _).alloc (by simp) _)
  have Z0 : Hid (w0.heap.size = w.heap.size + 2) := Lib.hid (by rw [hw0]; simp)
  obtain ⟨k0, k1, k2⟩ := K0.out.three
  go_enter Try.func33, Try.ntmps33
  go_wp2_with fail
  rw [← hw0]
  clear hw0
  refine (i_ValidProfile A L D ca cl cd a l d _ (HP.out.below B0.out) hn).mono ?_
  rintro e wq ⟨rfl, bq⟩
  clear k0 k1 k2
  have Lq : Hid (BlkL wq w.heap.size [.slice A a.length ca, .slice L l.length cl, .slice D d.length cd]) := Lib.hid (K0.out.below bq)
  have Rq : Hid (BlkL wq (w.heap.size + 1) [.slice none 0 0, .slice none 0 0, .slice none 0 0]) := Lib.hid (KR.out.below bq)
  have Bq : Hid (Below w.heap.size w wq) := Lib.hid (below_of B0.out B0.out.size bq)
  have Zq : Hid (w.heap.size + 2 ≤ wq.heap.size) := Lib.hid (by have := bq.size; have := Z0.out; omega)
  clear bq K0 KR
  cases v0 : validP a l d
  · have HN := Lib.hid (HON.out v0)
    clear v0
    have p0 := (Rq.out.2 0 _ rfl).1
    have q0 := (Rq.out.2 0 _ rfl).2
    have p1 := (Rq.out.2 1 _ rfl).1
    have q1 := (Rq.out.2 1 _ rfl).2
    have p2 := (Rq.out.2 2 _ rfl).1
    have q2 := (Rq.out.2 2 _ rfl).2
    go_wp2
    refine bodyPost_ret (v := .tuple #[.agg #[.slice none 0 0, .slice none 0 0, .slice none 0 0], .bool false]) ?_ rfl ?_
    · simp [results, Try.results33, go_sem, p0, p1, p2]
    · rw [HN.out]
      exact ⟨none, none, none, 0, 0, 0, 0, 1, 2, rfl, OwnQ.none _ _, (((Bq.out).setCell (p := ⟨w.heap.size + 1, 0, none⟩) (by show w.heap.size ≤ w.heap.size + 1; omega) _).setCell (p := ⟨w.heap.size + 1, 1, none⟩) (by show w.heap.size ≤ w.heap.size + 1; omega) _).setCell (p := ⟨w.heap.size + 1, 2, none⟩) (by show w.heap.size ≤ w.heap.size + 1; omega) _⟩
  · obtain ⟨s1, s2, s3, s4⟩ := sized_of v0
    have HO := Lib.hid (HOY.out v0)
    have hang : angs a a.length = true := by
      have v1 := v0
      rw [validP_yes ⟨s1, s2, s3, s4⟩] at v1
      simp only [Bool.and_eq_true] at v1
      exact v1.1
    clear v0
    obtain ⟨ba, oa, rfl, -, -⟩ := HP.out.1.at_ (k := 0) (by omega)
    obtain ⟨bl, ol, rfl, -, -⟩ := HP.out.2.1.at_ (k := 0) (by omega)
    obtain ⟨bd, od, rfl, -, -⟩ := HP.out.2.2.at_ (k := 0) (by omega)
    obtain ⟨i1, i2, ix, -, -⟩ := cut_inv (xs := a) (lo := lo) (hi := hi) hang (Nat.le_refl _) a.length (Nat.le_refl _)
    obtain ⟨-, -, iy, -, -⟩ := cut_inv (xs := l) (lo := lo) (hi := hi) hang (by omega) a.length (Nat.le_refl _)
    obtain ⟨-, -, iz, -, -⟩ := cut_inv (xs := d) (lo := lo) (hi := hi) hang (by omega) a.length (Nat.le_refl _)
    have HPO := Lib.hid (fun (W : World) (hb : Below w.heap.size w W) => i_partOf ba oa bl ol bd od a.length l.length d.length ca cl cd lo hi a W (HP.out.1.below hb) rfl HCP.out.1 (by have := HCP.out.2.1; omega) (by have := HCP.out.2.2; omega) s2 hang)
    generalize (cutF a lo hi a.length).1 = fs at i1 ix iy iz HPO
    generalize (cutF a lo hi a.length).2 = en at i1 i2 ix iy iz HPO
    have HFX : Hid (Fl w (ptrP ba oa fs en) X) := Lib.hid (by rw [HXE.out]; unfold cutL; rw [ix]; exact HP.out.1.part i1 i2)
    have HFY : Hid (Fl w (ptrP bl ol fs en) Y) := Lib.hid (by rw [HYE.out]; unfold cutL; rw [iy]; exact HP.out.2.1.part i1 (by omega))
    have HFZ : Hid (Fl w (ptrP bd od fs en) Z) := Lib.hid (by rw [HZE.out]; unfold cutL; rw [iz]; exact HP.out.2.2.part i1 (by omega))
    have hxl : X.length = en - fs := by rw [HXE.out]; unfold cutL; rw [ix, List.length_drop, List.length_take]; omega
    have hyl : Y.length = en - fs := by rw [HYE.out]; unfold cutL; rw [iy, List.length_drop, List.length_take]; omega
    have hzl : Z.length = en - fs := by rw [HZE.out]; unfold cutL; rw [iz, List.length_drop, List.length_take]; omega
    have hen : en ≤ 24 := by omega
    have HPE : Hid (en = fs → ptrP ba oa fs en = some ⟨ba, oa, none⟩ ∧ ptrP bl ol fs en = some ⟨bl, ol, none⟩ ∧ ptrP bd od fs en = some ⟨bd, od, none⟩) := Lib.hid (fun e => by unfold ptrP; rw [if_pos e, if_pos e, if_pos e]; exact ⟨rfl, rfl, rfl⟩)
    generalize ptrP ba oa fs en = P0 at HFX HPO HPE
    generalize ptrP bl ol fs en = P1 at HFY HPO HPE
    generalize ptrP bd od fs en = P2 at HFZ HPO HPE
    obtain ⟨m, hm⟩ : ∃ m, m = en - fs := ⟨_, rfl⟩
    rw [← hm] at hxl hyl hzl HPO
    have HM : Hid (X.length = m ∧ Y.length = m ∧ Z.length = m ∧ m ≤ 24) := Lib.hid ⟨hxl, hyl, hzl, by omega⟩
    have HME : Hid (m = 0 → en = fs) := Lib.hid (fun e => by omega)
    have HLEN : Hid (X.length ≤ 24 ∧ Y.length ≤ 24 ∧ Z.length ≤ 24) := Lib.hid (by have := HM.out; omega)
    clear hxl hyl hzl hm i1 i2 ix iy iz hang s3 s4 hen
    obtain ⟨k0, k1, k2⟩ := Lq.out.three
    go_wp2_with fail
    refine (HPO.out wq Bq.out).mono ?_
    rintro e wr ⟨rfl, br⟩
    have Rr : Hid (BlkL wr (w.heap.size + 1) [.slice none 0 0, .slice none 0 0, .slice none 0 0]) := Lib.hid (Rq.out.below br)
    have Br : Hid (Below w.heap.size w wr) := Lib.hid (below_of Bq.out Bq.out.size br)
    have Zr : Hid (w.heap.size + 2 ≤ wr.heap.size) := Lib.hid (by have := br.size; have := Zq.out; omega)
    clear br k0 k1 k2
    by_cases hm0 : m = 0
    · obtain ⟨e0, e1, e2⟩ := HPE.out (HME.out hm0)
      have HN : Hid (O = false) := Lib.hid (by
        rw [HO.out]
        apply validP_no
        intro hh
        have := hh.1
        have := HM.out
        omega)
      subst hm0 e0 e1 e2
      have HE0 : Hid (∀ W, Calls Try.prog 76 #[.slice (some ⟨ba, oa, none⟩) 0 0] W fun e w' => ∃ (R : Option Addr) (c : Nat), e = .returned (.slice R 0 c) ∧ Below W.heap.size W w') := Lib.hid (fun W => (lib_CloneG ba oa 0 [] W (.inl rfl) (by simp)).mono fun e w' ⟨R, c, g, he, _, hb⟩ => ⟨R, c, he, hb⟩)
      have HE1 : Hid (∀ W, Calls Try.prog 76 #[.slice (some ⟨bl, ol, none⟩) 0 0] W fun e w' => ∃ (R : Option Addr) (c : Nat), e = .returned (.slice R 0 c) ∧ Below W.heap.size W w') := Lib.hid (fun W => (lib_CloneG bl ol 0 [] W (.inl rfl) (by simp)).mono fun e w' ⟨R, c, g, he, _, hb⟩ => ⟨R, c, he, hb⟩)
      have HE2 : Hid (∀ W, Calls Try.prog 76 #[.slice (some ⟨bd, od, none⟩) 0 0] W fun e w' => ∃ (R : Option Addr) (c : Nat), e = .returned (.slice R 0 c) ∧ Below W.heap.size W w') := Lib.hid (fun W => (lib_CloneG bd od 0 [] W (.inl rfl) (by simp)).mono fun e w' ⟨R, c, g, he, _, hb⟩ => ⟨R, c, he, hb⟩)
      obtain ⟨w1, hw1⟩ : ∃ x, x = wr.alloc (.cells #[.slice (some ⟨ba, oa, none⟩) 0 0, .slice (some ⟨bl, ol, none⟩) 0 0, .slice (some ⟨bd, od, none⟩) 0 0] 24) := ⟨_, rfl⟩
      have b1 : Below wr.heap.size wr w1 := by rw [hw1]; exact (Below.refl _ _).alloc (Nat.le_refl _) _
      have LP : Hid (BlkL w1 wr.heap.size [.slice (some ⟨ba, oa, none⟩) 0 0, .slice (some ⟨bl, ol, none⟩) 0 0, .slice (some ⟨bd, od, none⟩) 0 0]) := Lib.hid (by rw [hw1]; exact blkL_at wr #[.slice (some ⟨ba, oa, none⟩) 0 0, .slice (some ⟨bl, ol, none⟩) 0 0, .slice (some ⟨bd, od, none⟩) 0 0] _ rfl)
      have LR : Hid (BlkL w1 (w.heap.size + 1) [.slice none 0 0, .slice none 0 0, .slice none 0 0]) := Lib.hid (Rr.out.below b1)
      have B1 : Hid (Below w.heap.size w w1) := Lib.hid (below_of Br.out Br.out.size b1)
      have z1 : wr.heap.size + 1 ≤ w1.heap.size := by rw [hw1]; simp
      have zz := Zr.out
      clear b1
      go_wp2_with fail
      rw [← hw1]
      clear hw1
      have hFin : ∀ wa wb : World, Below wa.heap.size wa wb → BlkL wa (w.heap.size + 1) [.slice none 0 0, .slice none 0 0, .slice none 0 0] → BlkL wb (w.heap.size + 1) [.slice none 0 0, .slice none 0 0, .slice none 0 0] := fun _ _ hb h => h.below hb
      skip
      refine wp_region_inv7 (fun iq wv v => match iq with
        | 0 => v = .pointer (some ⟨wr.heap.size, 0, none⟩)
        | 1 => v = .slice (some ⟨ba, oa, none⟩) 0 0
        | 2 => ∃ Rk cp, v = .slice Rk 0 cp
        | 3 => v = .pointer (some ⟨wr.heap.size, 1, none⟩)
        | 4 => v = .slice (some ⟨bl, ol, none⟩) 0 0
        | 5 => ∃ Rk cp, v = .slice Rk 0 cp
        | 6 => v = .pointer (some ⟨wr.heap.size, 2, none⟩)
        | 7 => v = .slice (some ⟨bd, od, none⟩) 0 0
        | 8 => ∃ Rk cp, v = .slice Rk 0 cp
        | 9 => ∃ Ra da Rb db Rc dc, v = .agg #[.slice Ra 0 da, .slice Rb 0 db, .slice Rc 0 dc]
        | 10 => v = .tuple #[.agg #[.slice none 0 0, .slice none 0 0, .slice none 0 0], .bool false]
        | 11 => v = .agg #[.slice none 0 0, .slice none 0 0, .slice none 0 0]
        | 12 => v = .bool false
        | 13 => True
        | 14 => v = .bool false
        | _ => False) (fun listed _ ww => StC w1 (w.heap.size + 1) 3 13 (fun W => BlkL W (w.heap.size + 1) [.slice none 0 0, .slice none 0 0, .slice none 0 0]) listed ww) (fun wa wb => Turn wa wb (fun b => b = (w.heap.size + 1))) ?hmono (by kernel_rfl) (by kernel_rfl) (StC.start LR.out rfl) ?hop ?hend
      case hmono =>
        intro i wa wb v hR hV
        rcases i with _ | _ | _ | _ | _ | _ | _ | _ | _ | _ | _ | _ | _ | _ | _ | i
        · exact hV
        · exact hV
        · exact hV
        · exact hV
        · exact hV
        · exact hV
        · exact hV
        · exact hV
        · exact hV
        · exact hV
        · exact hV
        · exact hV
        · exact hV
        · exact hV
        · exact hV
        · exact hV
      case hop =>
        intro q o hq listed act w3 hI hCA hnot hcl hall
        have hC := hCA
        have hlen : listed.size = 15 := hI.len
        obtain ⟨kx0, kx1, kx2⟩ := (LP.out.turnS hC.1 (by intro e; omega)).three
        rcases q with _ | _ | _ | _ | _ | _ | _ | _ | _ | _ | _ | _ | _ | _ | _ | q
        · simp at hq; subst hq
          have g8 : act.tmps[8]?.getD undef = .pointer (some ⟨wr.heap.size, 0, none⟩) := hI.kept 8 (by kernel_rfl)
          clear hI hall hnot hcl
          refine .inl ⟨wanted_none rfl, ?_⟩
          unfold Oper.wp
          go_simp
          all_goals exact ⟨_, rfl, Turn.refl _ _, rfl, StC.step (k := 0) hC (Below.refl _ _) hFin (by decide) (by rw [hlen]; decide)⟩
        · simp at hq; subst hq
          have g17 : act.tmps[17]?.getD undef = .pointer (some ⟨wr.heap.size, 0, none⟩) := hI.has 0 17 rfl (hall ⟨0, .data⟩ (by simp) rfl)
          clear hI hall hnot hcl
          refine .inl ⟨wanted_none rfl, ?_⟩
          unfold Oper.wp
          go_simp
          all_goals exact ⟨_, rfl, Turn.refl _ _, rfl, StC.step (k := 1) hC (Below.refl _ _) hFin (by decide) (by rw [hlen]; decide)⟩
        · simp at hq; subst hq
          have g18 : act.tmps[18]?.getD undef = .slice (some ⟨ba, oa, none⟩) 0 0 := hI.has 1 18 rfl (hall ⟨1, .data⟩ (by simp) rfl)
          clear hI hall hnot hcl
          refine .inl ⟨wanted_none rfl, ?_⟩
          unfold Oper.wp
          go_simp
          refine (HE0.out w3).mono ?_
          rintro e w4 ⟨Rk, cp, rfl, b4⟩
          exact ⟨_, rfl, Turn.of_below b4 _, ⟨Rk, cp, rfl⟩, StC.step (k := 2) hC b4 hFin (by decide) (by rw [hlen]; decide)⟩
        · simp at hq; subst hq
          have g8 : act.tmps[8]?.getD undef = .pointer (some ⟨wr.heap.size, 0, none⟩) := hI.kept 8 (by kernel_rfl)
          clear hI hall hnot hcl
          refine .inl ⟨wanted_none rfl, ?_⟩
          unfold Oper.wp
          go_simp
          all_goals exact ⟨_, rfl, Turn.refl _ _, rfl, StC.step (k := 3) hC (Below.refl _ _) hFin (by decide) (by rw [hlen]; decide)⟩
        · simp at hq; subst hq
          have g20 : act.tmps[20]?.getD undef = .pointer (some ⟨wr.heap.size, 1, none⟩) := hI.has 3 20 rfl (hall ⟨3, .data⟩ (by simp) rfl)
          clear hI hall hnot hcl
          refine .inl ⟨wanted_none rfl, ?_⟩
          unfold Oper.wp
          go_simp
          all_goals exact ⟨_, rfl, Turn.refl _ _, rfl, StC.step (k := 4) hC (Below.refl _ _) hFin (by decide) (by rw [hlen]; decide)⟩
        · simp at hq; subst hq
          have g21 : act.tmps[21]?.getD undef = .slice (some ⟨bl, ol, none⟩) 0 0 := hI.has 4 21 rfl (hall ⟨4, .data⟩ (by simp) rfl)
          clear hI hall hnot hcl
          refine .inl ⟨wanted_none rfl, ?_⟩
          unfold Oper.wp
          go_simp
          refine (HE1.out w3).mono ?_
          rintro e w4 ⟨Rk, cp, rfl, b4⟩
          exact ⟨_, rfl, Turn.of_below b4 _, ⟨Rk, cp, rfl⟩, StC.step (k := 5) hC b4 hFin (by decide) (by rw [hlen]; decide)⟩
        · simp at hq; subst hq
          have g8 : act.tmps[8]?.getD undef = .pointer (some ⟨wr.heap.size, 0, none⟩) := hI.kept 8 (by kernel_rfl)
          clear hI hall hnot hcl
          refine .inl ⟨wanted_none rfl, ?_⟩
          unfold Oper.wp
          go_simp
          all_goals exact ⟨_, rfl, Turn.refl _ _, rfl, StC.step (k := 6) hC (Below.refl _ _) hFin (by decide) (by rw [hlen]; decide)⟩
        · simp at hq; subst hq
          have g23 : act.tmps[23]?.getD undef = .pointer (some ⟨wr.heap.size, 2, none⟩) := hI.has 6 23 rfl (hall ⟨6, .data⟩ (by simp) rfl)
          clear hI hall hnot hcl
          refine .inl ⟨wanted_none rfl, ?_⟩
          unfold Oper.wp
          go_simp
          all_goals exact ⟨_, rfl, Turn.refl _ _, rfl, StC.step (k := 7) hC (Below.refl _ _) hFin (by decide) (by rw [hlen]; decide)⟩
        · simp at hq; subst hq
          have g24 : act.tmps[24]?.getD undef = .slice (some ⟨bd, od, none⟩) 0 0 := hI.has 7 24 rfl (hall ⟨7, .data⟩ (by simp) rfl)
          clear hI hall hnot hcl
          refine .inl ⟨wanted_none rfl, ?_⟩
          unfold Oper.wp
          go_simp
          refine (HE2.out w3).mono ?_
          rintro e w4 ⟨Rk, cp, rfl, b4⟩
          exact ⟨_, rfl, Turn.of_below b4 _, ⟨Rk, cp, rfl⟩, StC.step (k := 8) hC b4 hFin (by decide) (by rw [hlen]; decide)⟩
        · simp at hq; subst hq
          obtain ⟨Rk2, cp2, g19⟩ := hI.has 2 19 rfl (hall ⟨2, .data⟩ (by simp) rfl)
          obtain ⟨Rk5, cp5, g22⟩ := hI.has 5 22 rfl (hall ⟨5, .data⟩ (by simp) rfl)
          obtain ⟨Rk8, cp8, g25⟩ := hI.has 8 25 rfl (hall ⟨8, .data⟩ (by simp) rfl)
          clear hI hall hnot hcl
          refine .inl ⟨wanted_none rfl, ?_⟩
          unfold Oper.wp
          go_simp
          exact ⟨_, rfl, Turn.refl _ _, ⟨Rk2, cp2, Rk5, cp5, Rk8, cp8, rfl⟩, StC.step (k := 9) hC (Below.refl _ _) hFin (by decide) (by rw [hlen]; decide)⟩
        · simp at hq; subst hq
          obtain ⟨Ra9, da9, Rb9, db9, Rc9, dc9, g26⟩ := hI.has 9 26 rfl (hall ⟨9, .data⟩ (by simp) rfl)
          clear hI hall hnot hcl
          refine .inl ⟨wanted_none rfl, ?_⟩
          unfold Oper.wp
          go_simp
          refine (i_GiveP_no Ra9 Rb9 Rc9 da9 db9 dc9 [] [] [] w3 ⟨.inl rfl, .inl rfl, .inl rfl⟩ (by simp [Few]) (by decide +kernel)).mono ?_
          rintro e w4 ⟨rfl, b4⟩
          exact ⟨_, rfl, Turn.of_below b4 _, rfl, StC.step (k := 10) hC b4 hFin (by decide) (by rw [hlen]; decide)⟩
        · simp at hq; subst hq
          have g27 : act.tmps[27]?.getD undef = .tuple #[.agg #[.slice none 0 0, .slice none 0 0, .slice none 0 0], .bool false] := hI.has 10 27 rfl (hall ⟨10, .data⟩ (by simp) rfl)
          clear hI hall hnot hcl
          refine .inl ⟨wanted_none rfl, ?_⟩
          unfold Oper.wp
          go_simp
          all_goals exact ⟨_, rfl, Turn.refl _ _, rfl, StC.step (k := 11) hC (Below.refl _ _) hFin (by decide) (by rw [hlen]; decide)⟩
        · simp at hq; subst hq
          have g27 : act.tmps[27]?.getD undef = .tuple #[.agg #[.slice none 0 0, .slice none 0 0, .slice none 0 0], .bool false] := hI.has 10 27 rfl (hall ⟨10, .data⟩ (by simp) rfl)
          clear hI hall hnot hcl
          refine .inl ⟨wanted_none rfl, ?_⟩
          unfold Oper.wp
          go_simp
          all_goals exact ⟨_, rfl, Turn.refl _ _, rfl, StC.step (k := 12) hC (Below.refl _ _) hFin (by decide) (by rw [hlen]; decide)⟩
        · simp at hq; subst hq
          have g6 : act.tmps[6]?.getD undef = .pointer (some ⟨(w.heap.size + 1), 0, none⟩) := hI.kept 6 (by kernel_rfl)
          have g28 : act.tmps[28]?.getD undef = .agg #[.slice none 0 0, .slice none 0 0, .slice none 0 0] := hI.has 11 28 rfl (hall ⟨11, .data⟩ (by simp) rfl)
          clear hI hall hnot hcl
          refine .inl ⟨wanted_none rfl, ?_⟩
          unfold Oper.wp
          go_simp
          obtain ⟨vs, hvs, hvl⟩ := hC.2.1
          match vs, hvs, hvl with
          | [a0, a1, a2], hvs, _ =>
          have p0 := (hvs.2 0 _ rfl).1
          have q0 := (hvs.2 0 _ rfl).2
          have p1 := (hvs.2 1 _ rfl).1
          have q1 := (hvs.2 1 _ rfl).2
          have p2 := (hvs.2 2 _ rfl).1
          have q2 := (hvs.2 2 _ rfl).2
          go_simp
          have hf := (((hvs.set (i := 0) (by simp) (.slice none 0 0)).set (i := 1) (by simp) (.slice none 0 0)).set (i := 2) (by simp) (.slice none 0 0))
          have ht := (((Turn.set w3 (B := (w.heap.size + 1)) ⟨(w.heap.size + 1), 0, none⟩ rfl (.slice none 0 0)).trans (Turn.set _ (B := (w.heap.size + 1)) ⟨(w.heap.size + 1), 1, none⟩ rfl (.slice none 0 0))).trans (Turn.set _ (B := (w.heap.size + 1)) ⟨(w.heap.size + 1), 2, none⟩ rfl (.slice none 0 0)))
          have hst := StC.store (st := 13) hC ht hf rfl hf
          first | exact ⟨ht, trivial, hst⟩ | exact ⟨ht, hst⟩
        · simp at hq; subst hq
          have g29 : act.tmps[29]?.getD undef = .bool false := hI.has 12 29 rfl (hall ⟨12, .data⟩ (by simp) rfl)
          clear hI hall hnot hcl
          refine .inl ⟨wanted_none rfl, ?_⟩
          unfold Oper.wp
          go_simp
          all_goals exact ⟨_, rfl, Turn.refl _ _, rfl, StC.step (k := 14) hC (Below.refl _ _) hFin (by decide) (by rw [hlen]; decide)⟩
        · simp at hq
      case hend =>
        intro listed act w3 hI hCA hall
        have hC := hCA
        have hlen : listed.size = 15 := hI.len
        obtain ⟨kx0, kx1, kx2⟩ := (LP.out.turnS hC.1 (by intro e; omega)).three
        have hf := hC.2.2 (hall 13 (by decide))
        have ht := hC.1
        have g6 : act.tmps[6]?.getD undef = .pointer (some ⟨(w.heap.size + 1), 0, none⟩) := hI.kept 6 (by kernel_rfl)
        have g7 : act.tmps[7]?.getD undef = .bool false := hI.has 14 7 rfl (hall 14 (by decide))
        have hd := hI.defers
        clear hI hall hFin hC
        have c0 := (hf.2 0 _ rfl).1
        have c1 := (hf.2 1 _ rfl).1
        have c2 := (hf.2 2 _ rfl).1
        go_wp2
        refine bodyPost_ret (v := .tuple #[.agg #[.slice none 0 0, .slice none 0 0, .slice none 0 0], .bool false]) (by simp [results, Try.results33, g6, g7, c0, c1, c2, go_sem]) (by first | rfl | exact hd) ?_
        have hbw := ht.2.2.2 w B1.out (fun b hb => by have hb : b = (w.heap.size + 1) := hb; omega)
        rw [HN.out]
        first | exact ⟨none, none, none, 0, 0, 0, 0, 1, 2, rfl, OwnQ.none _ _, hbw⟩ | exact ⟨none, none, none, ⟨0, 0, 0, rfl⟩, ⟨0, 1, 2, OwnQ.none _ _⟩, hbw⟩
    · have HCX : Hid (∀ W, Fl W P0 X → Calls Try.prog 76 #[.slice P0 m m] W fun e w' => ∃ c b, e = .returned (.slice (some ⟨b, 0, none⟩) X.length c) ∧ Own w' b X ∧ W.heap.size ≤ b ∧ Below W.heap.size W w') := Lib.hid (fun W hf => by have h1 := lib_CloneP P0 m X W hf (by have := HM.out; omega) (by have := HM.out; omega); rw [HM.out.1] at h1 ⊢; exact h1)
      have HCY : Hid (∀ W, Fl W P1 Y → Calls Try.prog 76 #[.slice P1 m m] W fun e w' => ∃ c b, e = .returned (.slice (some ⟨b, 0, none⟩) Y.length c) ∧ Own w' b Y ∧ W.heap.size ≤ b ∧ Below W.heap.size W w') := Lib.hid (fun W hf => by have h1 := lib_CloneP P1 m Y W hf (by have := HM.out; omega) (by have := HM.out; omega); rw [HM.out.2.1] at h1 ⊢; exact h1)
      have HCZ : Hid (∀ W, Fl W P2 Z → Calls Try.prog 76 #[.slice P2 m m] W fun e w' => ∃ c b, e = .returned (.slice (some ⟨b, 0, none⟩) Z.length c) ∧ Own w' b Z ∧ W.heap.size ≤ b ∧ Below W.heap.size W w') := Lib.hid (fun W hf => by have h1 := lib_CloneP P2 m Z W hf (by have := HM.out; omega) (by have := HM.out; omega); rw [HM.out.2.2.1] at h1 ⊢; exact h1)
      obtain ⟨w1, hw1⟩ : ∃ x, x = wr.alloc (.cells #[.slice P0 m m, .slice P1 m m, .slice P2 m m] 24) := ⟨_, rfl⟩
      have b1 : Below wr.heap.size wr w1 := by rw [hw1]; exact (Below.refl _ _).alloc (Nat.le_refl _) _
      have LP : Hid (BlkL w1 wr.heap.size [.slice P0 m m, .slice P1 m m, .slice P2 m m]) := Lib.hid (by rw [hw1]; exact blkL_at wr #[.slice P0 m m, .slice P1 m m, .slice P2 m m] _ rfl)
      have LR : Hid (BlkL w1 (w.heap.size + 1) [.slice none 0 0, .slice none 0 0, .slice none 0 0]) := Lib.hid (Rr.out.below b1)
      have B1 : Hid (Below w.heap.size w w1) := Lib.hid (below_of Br.out Br.out.size b1)
      have z1 : wr.heap.size + 1 ≤ w1.heap.size := by rw [hw1]; simp
      have zz := Zr.out
      clear b1
      go_wp2_with fail
      rw [← hw1]
      clear hw1
      have hFin := PFin.below ((w.heap.size + 1)) w1.heap.size O X Y Z
      refine wp_region_inv7 (fun iq wv v => match iq with
        | 0 => v = .pointer (some ⟨wr.heap.size, 0, none⟩)
        | 1 => v = .slice P0 m m
        | 2 => ∃ cp bk xs, v = .slice (some ⟨bk, 0, none⟩) xs.length cp ∧ Own wv bk xs ∧ w1.heap.size ≤ bk ∧ CL xs X
        | 3 => v = .pointer (some ⟨wr.heap.size, 1, none⟩)
        | 4 => v = .slice P1 m m
        | 5 => ∃ cp bk xs, v = .slice (some ⟨bk, 0, none⟩) xs.length cp ∧ Own wv bk xs ∧ w1.heap.size ≤ bk ∧ CL xs Y
        | 6 => v = .pointer (some ⟨wr.heap.size, 2, none⟩)
        | 7 => v = .slice P2 m m
        | 8 => ∃ cp bk xs, v = .slice (some ⟨bk, 0, none⟩) xs.length cp ∧ Own wv bk xs ∧ w1.heap.size ≤ bk ∧ CL xs Z
        | 9 => ∃ da ka xa db kb xb dc kc xc, v = .agg #[.slice (some ⟨ka, 0, none⟩) xa.length da, .slice (some ⟨kb, 0, none⟩) xb.length db, .slice (some ⟨kc, 0, none⟩) xc.length dc] ∧ OwnQ wv w1.heap.size (some ⟨ka, 0, none⟩) (some ⟨kb, 0, none⟩) (some ⟨kc, 0, none⟩) ka kb kc xa xb xc ∧ (CL xa X ∧ CL xb Y ∧ CL xc Z)
        | 10 => PGiv w1.heap.size O X Y Z wv v
        | 11 => PAgg w1.heap.size O X Y Z wv v
        | 12 => v = .bool O
        | 13 => True
        | 14 => v = .bool O
        | _ => False) (fun listed aa ww => StC w1 ((w.heap.size + 1)) 3 13 (PFin ((w.heap.size + 1)) w1.heap.size O X Y Z) listed ww ∧ AP [19, 22, 25] aa ww) (fun wa wb => Turn wa wb (fun b => b = (w.heap.size + 1))) ?hmono (by kernel_rfl) (by kernel_rfl) ⟨StC.start LR.out rfl, AP.start (by rfl)⟩ ?hop ?hend
      case hmono =>
        intro i wa wb v hR hV
        rcases i with _ | _ | _ | _ | _ | _ | _ | _ | _ | _ | _ | _ | _ | _ | _ | i
        · exact hV
        · exact hV
        · obtain ⟨cp, bk, xs, rfl, ho, hb, hr⟩ := hV; exact ⟨cp, bk, xs, rfl, ho.turn hR (by show ¬ bk = _; omega), hb, hr⟩
        · exact hV
        · exact hV
        · obtain ⟨cp, bk, xs, rfl, ho, hb, hr⟩ := hV; exact ⟨cp, bk, xs, rfl, ho.turn hR (by show ¬ bk = _; omega), hb, hr⟩
        · exact hV
        · exact hV
        · obtain ⟨cp, bk, xs, rfl, ho, hb, hr⟩ := hV; exact ⟨cp, bk, xs, rfl, ho.turn hR (by show ¬ bk = _; omega), hb, hr⟩
        · obtain ⟨da, ka, xa, db, kb, xb, dc, kc, xc, rfl, ho, hr⟩ := hV; exact ⟨da, ka, xa, db, kb, xb, dc, kc, xc, rfl, OwnQ.turn' ho hR (fun b h1 _ hb => by have hb : b = _ := hb; omega), hr⟩
        · exact hV.turn hR (by omega)
        · exact hV.turn hR (by omega)
        · exact hV
        · exact hV
        · exact hV
        · exact hV
      case hop =>
        intro q o hq listed act w3 hI hCA hnot hcl hall
        obtain ⟨hC, hA⟩ := hCA
        have hlen : listed.size = 15 := hI.len
        obtain ⟨kx0, kx1, kx2⟩ := (LP.out.turnS hC.1 (by intro e; omega)).three
        rcases q with _ | _ | _ | _ | _ | _ | _ | _ | _ | _ | _ | _ | _ | _ | _ | q
        · simp at hq; subst hq
          have g8 : act.tmps[8]?.getD undef = .pointer (some ⟨wr.heap.size, 0, none⟩) := hI.kept 8 (by kernel_rfl)
          have hA2 := fun v => AP.other (k := 17) hA (by decide) v
          clear hI hall hnot hcl
          refine .inl ⟨wanted_none rfl, ?_⟩
          unfold Oper.wp
          go_simp
          all_goals exact ⟨_, rfl, Turn.refl _ _, rfl, StC.step (k := 0) hC (Below.refl _ _) hFin (by decide) (by rw [hlen]; decide), hA2 _⟩
        · simp at hq; subst hq
          have g17 : act.tmps[17]?.getD undef = .pointer (some ⟨wr.heap.size, 0, none⟩) := hI.has 0 17 rfl (hall ⟨0, .data⟩ (by simp) rfl)
          have hA2 := fun v => AP.other (k := 18) hA (by decide) v
          clear hI hall hnot hcl
          refine .inl ⟨wanted_none rfl, ?_⟩
          unfold Oper.wp
          go_simp
          all_goals exact ⟨_, rfl, Turn.refl _ _, rfl, StC.step (k := 1) hC (Below.refl _ _) hFin (by decide) (by rw [hlen]; decide), hA2 _⟩
        · simp at hq; subst hq
          have g18 : act.tmps[18]?.getD undef = .slice P0 m m := hI.has 1 18 rfl (hall ⟨1, .data⟩ (by simp) rfl)
          clear hI hall hnot hcl
          refine .inl ⟨wanted_none rfl, ?_⟩
          unfold Oper.wp
          go_simp
          refine (HCX.out w3 (HFX.out.turnW B1.out hC.1 (by omega))).mono ?_
          rintro e w4 ⟨cp, bk, rfl, ho, hlo, b4⟩
          have hz := hC.1.1
          exact ⟨_, rfl, Turn.of_below b4 _, ⟨cp, bk, X, rfl, ho, by omega, CL.rfl' _⟩, StC.step (k := 2) hC b4 hFin (by decide) (by rw [hlen]; decide), AP.new hA b4.size hlo ho.1⟩
        · simp at hq; subst hq
          have g8 : act.tmps[8]?.getD undef = .pointer (some ⟨wr.heap.size, 0, none⟩) := hI.kept 8 (by kernel_rfl)
          have hA2 := fun v => AP.other (k := 20) hA (by decide) v
          clear hI hall hnot hcl
          refine .inl ⟨wanted_none rfl, ?_⟩
          unfold Oper.wp
          go_simp
          all_goals exact ⟨_, rfl, Turn.refl _ _, rfl, StC.step (k := 3) hC (Below.refl _ _) hFin (by decide) (by rw [hlen]; decide), hA2 _⟩
        · simp at hq; subst hq
          have g20 : act.tmps[20]?.getD undef = .pointer (some ⟨wr.heap.size, 1, none⟩) := hI.has 3 20 rfl (hall ⟨3, .data⟩ (by simp) rfl)
          have hA2 := fun v => AP.other (k := 21) hA (by decide) v
          clear hI hall hnot hcl
          refine .inl ⟨wanted_none rfl, ?_⟩
          unfold Oper.wp
          go_simp
          all_goals exact ⟨_, rfl, Turn.refl _ _, rfl, StC.step (k := 4) hC (Below.refl _ _) hFin (by decide) (by rw [hlen]; decide), hA2 _⟩
        · simp at hq; subst hq
          have g21 : act.tmps[21]?.getD undef = .slice P1 m m := hI.has 4 21 rfl (hall ⟨4, .data⟩ (by simp) rfl)
          clear hI hall hnot hcl
          refine .inl ⟨wanted_none rfl, ?_⟩
          unfold Oper.wp
          go_simp
          refine (HCY.out w3 (HFY.out.turnW B1.out hC.1 (by omega))).mono ?_
          rintro e w4 ⟨cp, bk, rfl, ho, hlo, b4⟩
          have hz := hC.1.1
          exact ⟨_, rfl, Turn.of_below b4 _, ⟨cp, bk, Y, rfl, ho, by omega, CL.rfl' _⟩, StC.step (k := 5) hC b4 hFin (by decide) (by rw [hlen]; decide), AP.new hA b4.size hlo ho.1⟩
        · simp at hq; subst hq
          have g8 : act.tmps[8]?.getD undef = .pointer (some ⟨wr.heap.size, 0, none⟩) := hI.kept 8 (by kernel_rfl)
          have hA2 := fun v => AP.other (k := 23) hA (by decide) v
          clear hI hall hnot hcl
          refine .inl ⟨wanted_none rfl, ?_⟩
          unfold Oper.wp
          go_simp
          all_goals exact ⟨_, rfl, Turn.refl _ _, rfl, StC.step (k := 6) hC (Below.refl _ _) hFin (by decide) (by rw [hlen]; decide), hA2 _⟩
        · simp at hq; subst hq
          have g23 : act.tmps[23]?.getD undef = .pointer (some ⟨wr.heap.size, 2, none⟩) := hI.has 6 23 rfl (hall ⟨6, .data⟩ (by simp) rfl)
          have hA2 := fun v => AP.other (k := 24) hA (by decide) v
          clear hI hall hnot hcl
          refine .inl ⟨wanted_none rfl, ?_⟩
          unfold Oper.wp
          go_simp
          all_goals exact ⟨_, rfl, Turn.refl _ _, rfl, StC.step (k := 7) hC (Below.refl _ _) hFin (by decide) (by rw [hlen]; decide), hA2 _⟩
        · simp at hq; subst hq
          have g24 : act.tmps[24]?.getD undef = .slice P2 m m := hI.has 7 24 rfl (hall ⟨7, .data⟩ (by simp) rfl)
          clear hI hall hnot hcl
          refine .inl ⟨wanted_none rfl, ?_⟩
          unfold Oper.wp
          go_simp
          refine (HCZ.out w3 (HFZ.out.turnW B1.out hC.1 (by omega))).mono ?_
          rintro e w4 ⟨cp, bk, rfl, ho, hlo, b4⟩
          have hz := hC.1.1
          exact ⟨_, rfl, Turn.of_below b4 _, ⟨cp, bk, Z, rfl, ho, by omega, CL.rfl' _⟩, StC.step (k := 8) hC b4 hFin (by decide) (by rw [hlen]; decide), AP.new hA b4.size hlo ho.1⟩
        · simp at hq; subst hq
          obtain ⟨cp2, bk2, xs2, g19, h2a, h2b, h2c⟩ := hI.has 2 19 rfl (hall ⟨2, .data⟩ (by simp) rfl)
          obtain ⟨cp5, bk5, xs5, g22, h5a, h5b, h5c⟩ := hI.has 5 22 rfl (hall ⟨5, .data⟩ (by simp) rfl)
          obtain ⟨cp8, bk8, xs8, g25, h8a, h8b, h8c⟩ := hI.has 8 25 rfl (hall ⟨8, .data⟩ (by simp) rfl)
          have hA2 := fun v => AP.other (k := 26) hA (by decide) v
          clear hI hall hnot hcl
          refine .inl ⟨wanted_none rfl, ?_⟩
          unfold Oper.wp
          go_simp
          have e12 := (hA.2 19 (by decide) 22 (by decide) (by decide) _ _ _ _ _ _ _ _ (by rw [Array.getD_eq_getD_getElem?]; exact g19) (by rw [Array.getD_eq_getD_getElem?]; exact g22))
          have e13 := (hA.2 19 (by decide) 25 (by decide) (by decide) _ _ _ _ _ _ _ _ (by rw [Array.getD_eq_getD_getElem?]; exact g19) (by rw [Array.getD_eq_getD_getElem?]; exact g25))
          have e23 := (hA.2 22 (by decide) 25 (by decide) (by decide) _ _ _ _ _ _ _ _ (by rw [Array.getD_eq_getD_getElem?]; exact g22) (by rw [Array.getD_eq_getD_getElem?]; exact g25))
          exact ⟨_, rfl, Turn.refl _ _, ⟨cp2, bk2, xs2, cp5, bk5, xs5, cp8, bk8, xs8, rfl, ⟨Own.o h2a h2b, Own.o h5a h5b, Own.o h8a h8b, e12, e13, e23⟩, h2c, h5c, h8c⟩, StC.step (k := 9) hC (Below.refl _ _) hFin (by decide) (by rw [hlen]; decide), hA2 _⟩
        · simp at hq; subst hq
          obtain ⟨da9, ka9, xa9, db9, kb9, xb9, dc9, kc9, xc9, g26, h9a, h9b⟩ := hI.has 9 26 rfl (hall ⟨9, .data⟩ (by simp) rfl)
          have hA2 := fun v => AP.other (k := 27) hA (by decide) v
          clear hI hall hnot hcl
          refine .inl ⟨wanted_none rfl, ?_⟩
          unfold Oper.wp
          go_simp
          refine (i_GiveQ _ _ _ _ _ _ _ _ _ w1.heap.size xa9 xb9 xc9 X Y Z O w3 h9a h9b.1 h9b.2.1 h9b.2.2 HO.out (by have h1 := h9b.1.1; have h2 := h9b.2.1.1; have h3 := h9b.2.2.1; have h4 := HLEN.out; unfold Few; omega)).mono ?_
          rintro e w4 ⟨Ra, Rb, Rc, da, db, dc, ka, kb, kc, rfl, ho, b4⟩
          exact ⟨_, rfl, Turn.of_below b4 _, PGiv.mk' ho, StC.step (k := 10) hC b4 hFin (by decide) (by rw [hlen]; decide), (hA2 _).grow b4.size⟩
        · simp at hq; subst hq
          obtain ⟨Ra10, Rb10, Rc10, da10, db10, dc10, ka10, kb10, kc10, g27, h10a⟩ := hI.has 10 27 rfl (hall ⟨10, .data⟩ (by simp) rfl)
          have hA2 := fun v => AP.other (k := 28) hA (by decide) v
          clear hI hall hnot hcl
          refine .inl ⟨wanted_none rfl, ?_⟩
          unfold Oper.wp
          go_simp
          exact ⟨_, rfl, Turn.refl _ _, PAgg.mk' h10a, StC.step (k := 11) hC (Below.refl _ _) hFin (by decide) (by rw [hlen]; decide), hA2 _⟩
        · simp at hq; subst hq
          obtain ⟨Ra10, Rb10, Rc10, da10, db10, dc10, ka10, kb10, kc10, g27, h10a⟩ := hI.has 10 27 rfl (hall ⟨10, .data⟩ (by simp) rfl)
          have hA2 := fun v => AP.other (k := 29) hA (by decide) v
          clear hI hall hnot hcl
          refine .inl ⟨wanted_none rfl, ?_⟩
          unfold Oper.wp
          go_simp
          all_goals exact ⟨_, rfl, Turn.refl _ _, rfl, StC.step (k := 12) hC (Below.refl _ _) hFin (by decide) (by rw [hlen]; decide), hA2 _⟩
        · simp at hq; subst hq
          have g6 : act.tmps[6]?.getD undef = .pointer (some ⟨(w.heap.size + 1), 0, none⟩) := hI.kept 6 (by kernel_rfl)
          obtain ⟨Ra11, Rb11, Rc11, da11, db11, dc11, ka11, kb11, kc11, g28, h11a⟩ := hI.has 11 28 rfl (hall ⟨11, .data⟩ (by simp) rfl)
          have hA2 := fun v => AP.skip hA v
          clear hI hall hnot hcl
          refine .inl ⟨wanted_none rfl, ?_⟩
          unfold Oper.wp
          go_simp
          obtain ⟨vs, hvs, hvl⟩ := hC.2.1
          match vs, hvs, hvl with
          | [a0, a1, a2], hvs, _ =>
          have p0 := (hvs.2 0 _ rfl).1
          have q0 := (hvs.2 0 _ rfl).2
          have p1 := (hvs.2 1 _ rfl).1
          have q1 := (hvs.2 1 _ rfl).2
          have p2 := (hvs.2 2 _ rfl).1
          have q2 := (hvs.2 2 _ rfl).2
          go_simp
          have hf := (((hvs.set (i := 0) (by simp) (.slice Ra11 (gLp O X).length da11)).set (i := 1) (by simp) (.slice Rb11 (gLp O Y).length db11)).set (i := 2) (by simp) (.slice Rc11 (gLp O Z).length dc11))
          have ht := (((Turn.set w3 (B := (w.heap.size + 1)) ⟨(w.heap.size + 1), 0, none⟩ rfl (.slice Ra11 (gLp O X).length da11)).trans (Turn.set _ (B := (w.heap.size + 1)) ⟨(w.heap.size + 1), 1, none⟩ rfl (.slice Rb11 (gLp O Y).length db11))).trans (Turn.set _ (B := (w.heap.size + 1)) ⟨(w.heap.size + 1), 2, none⟩ rfl (.slice Rc11 (gLp O Z).length dc11)))
          have hn := (((h11a.setC (p := ⟨(w.heap.size + 1), 0, none⟩) (by show (w.heap.size + 1) < _; omega) (.slice Ra11 (gLp O X).length da11)).setC (p := ⟨(w.heap.size + 1), 1, none⟩) (by show (w.heap.size + 1) < _; omega) (.slice Rb11 (gLp O Y).length db11)).setC (p := ⟨(w.heap.size + 1), 2, none⟩) (by show (w.heap.size + 1) < _; omega) (.slice Rc11 (gLp O Z).length dc11))
          have hst := StC.store (st := 13) hC ht hf rfl ⟨Ra11, Rb11, Rc11, da11, db11, dc11, ka11, kb11, kc11, hf, hn⟩
          have hap := (hA2 undef).grow ht.1
          first | exact ⟨ht, trivial, hst, hap⟩ | exact ⟨ht, hst, hap⟩
        · simp at hq; subst hq
          have g29 : act.tmps[29]?.getD undef = .bool O := hI.has 12 29 rfl (hall ⟨12, .data⟩ (by simp) rfl)
          have hA2 := fun v => AP.other (k := 7) hA (by decide) v
          clear hI hall hnot hcl
          refine .inl ⟨wanted_none rfl, ?_⟩
          unfold Oper.wp
          go_simp
          all_goals exact ⟨_, rfl, Turn.refl _ _, rfl, StC.step (k := 14) hC (Below.refl _ _) hFin (by decide) (by rw [hlen]; decide), hA2 _⟩
        · simp at hq
      case hend =>
        intro listed act w3 hI hCA hall
        obtain ⟨hC, hA⟩ := hCA
        have hlen : listed.size = 15 := hI.len
        obtain ⟨kx0, kx1, kx2⟩ := (LP.out.turnS hC.1 (by intro e; omega)).three
        obtain ⟨Ra, Rb, Rc, da, db, dc, ka, kb, kc, hf, hown⟩ := hC.2.2 (hall 13 (by decide))
        have ht := hC.1
        have g6 : act.tmps[6]?.getD undef = .pointer (some ⟨(w.heap.size + 1), 0, none⟩) := hI.kept 6 (by kernel_rfl)
        have g7 : act.tmps[7]?.getD undef = .bool O := hI.has 14 7 rfl (hall 14 (by decide))
        have hd := hI.defers
        clear hI hall hFin hC hA
        have c0 := (hf.2 0 _ rfl).1
        have c1 := (hf.2 1 _ rfl).1
        have c2 := (hf.2 2 _ rfl).1
        go_wp2
        refine bodyPost_ret (v := .tuple #[.agg #[.slice Ra (gLp O X).length da, .slice Rb (gLp O Y).length db, .slice Rc (gLp O Z).length dc], .bool O]) (by simp [results, Try.results33, g6, g7, c0, c1, c2, go_sem]) (by first | rfl | exact hd) ?_
        have hbw := ht.2.2.2 w B1.out (fun b hb => by have hb : b = (w.heap.size + 1) := hb; omega)
        first | exact ⟨Ra, Rb, Rc, da, db, dc, ka, kb, kc, rfl, hown.base B1.out.size, hbw⟩ | exact ⟨Ra, Rb, Rc, ⟨da, db, dc, rfl⟩, ⟨ka, kb, kc, hown.base B1.out.size⟩, hbw⟩
end Go.Proofs.Ytplofbkollhjpaa
