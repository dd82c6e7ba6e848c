/- ScaleProfile: the program's side. No statement is proved here. -/
import Derived.Test.YtplofbkollhjpaaPim
import Derived.Test.YtplofbkollhjpaaSclS
namespace Go.Proofs.Ytplofbkollhjpaa
open Go Go.RowKit
theorem BlkL.oneP {w : World} {B : Nat} {v0 : Value} (h : BlkL w B [v0]) : w.cell? ⟨B, 0, none⟩ = some v0 := (h.2 0 _ rfl).1
set_option maxHeartbeats 4000000 in
theorem i_sclAt (B B' k n cap u : Nat) (A : Option Addr) (xs : List Nat) (w : World) (h : Fl w A xs) (hl : xs.length = n) (k0 : w.cell? ⟨B, 0, none⟩ = some (.slice A n cap)) (k1 : w.cell? ⟨B', 0, none⟩ = some (.float .f32 u)) (hk : k < n) :
    Calls Try.prog 79 #[.int .i64 k, .pointer (some ⟨B, 0, none⟩), .pointer (some ⟨B', 0, none⟩)] w fun e w' => ∃ r, e = .returned (.float .f32 r) ∧ canon .f32 r = fop .mul .f32 (canon .f32 (xs.getD k 0)) (canon .f32 u) ∧ ∃ n, w' = w.drewN n := by
  obtain ⟨b, off, rfl, -, hc⟩ := h.at_ (show k < xs.length by omega)
  generalize xs.getD k 0 = x at hc ⊢
  clear h hl
  have hdd : ∀ nn j, ∃ mm, (w.drewN nn).drewN j = w.drewN mm := fun nn j => ⟨nn + j, World.drewN_drewN ..⟩
  go_enter Try.func79, Try.ntmps79
  go_wp2_with fail
  refine wp_region_inv3 (fun iq v => match iq with
    | 0 => v = .slice (some ⟨b, off, none⟩) n cap
    | 1 => v = .int .i64 k
    | 2 => v = .pointer (some ⟨b, off + k, none⟩)
    | 3 => v = .float .f32 x
    | 4 => v = .float .f32 u
    | 5 => ∃ r, v = .float .f32 r ∧ canon .f32 r = fop .mul .f32 (canon .f32 x) (canon .f32 u)
    | 6 => ∃ r, v = .float .f32 r ∧ canon .f32 r = fop .mul .f32 (canon .f32 x) (canon .f32 u)
    | _ => False) (fun _ ww => ∃ nn, ww = w.drewN nn) (by kernel_rfl) (by kernel_rfl) ⟨1, rfl⟩ ?hop ?hend
  case hop =>
    intro q o hq listed act w3 hI hnot hcl hall
    obtain ⟨nn, rfl⟩ := hI.cls
    rcases q with _ | _ | _ | _ | _ | _ | _ | q
    · simp at hq; subst hq
      have g1 : act.tmps[1]?.getD undef = .pointer (some ⟨B, 0, none⟩) := hI.kept 1 (by kernel_rfl)
      clear hI hall hnot hcl
      refine .inl ⟨wanted_none rfl, ?_⟩
      unfold Oper.wp
      go_simp
      all_goals exact ⟨_, rfl, rfl, ⟨_, rfl⟩⟩
    · simp at hq; subst hq
      have g0 : act.tmps[0]?.getD undef = .int .i64 k := hI.kept 0 (by kernel_rfl)
      clear hI hall hnot hcl
      refine .inl ⟨wanted_none rfl, ?_⟩
      unfold Oper.wp
      go_simp
      all_goals exact ⟨_, rfl, rfl, ⟨_, rfl⟩⟩
    · simp at hq; subst hq
      have g5 : act.tmps[5]?.getD undef = .slice (some ⟨b, off, none⟩) n cap := hI.has 0 5 rfl (hall ⟨0, .data⟩ (by simp) rfl)
      have g6 : act.tmps[6]?.getD undef = .int .i64 k := hI.has 1 6 rfl (hall ⟨1, .data⟩ (by simp) rfl)
      clear hI hall hnot hcl
      refine .inl ⟨wanted_none rfl, ?_⟩
      unfold Oper.wp
      go_simp
      all_goals exact ⟨_, rfl, rfl, ⟨_, rfl⟩⟩
    · simp at hq; subst hq
      have g7 : act.tmps[7]?.getD undef = .pointer (some ⟨b, off + k, none⟩) := hI.has 2 7 rfl (hall ⟨2, .data⟩ (by simp) rfl)
      clear hI hall hnot hcl
      refine .inl ⟨wanted_none rfl, ?_⟩
      unfold Oper.wp
      go_simp
      all_goals exact ⟨_, rfl, rfl, ⟨_, rfl⟩⟩
    · simp at hq; subst hq
      have g2 : act.tmps[2]?.getD undef = .pointer (some ⟨B', 0, none⟩) := hI.kept 2 (by kernel_rfl)
      clear hI hall hnot hcl
      refine .inl ⟨wanted_none rfl, ?_⟩
      unfold Oper.wp
      go_simp
      all_goals exact ⟨_, rfl, rfl, ⟨_, rfl⟩⟩
    · simp at hq; subst hq
      have g8 : act.tmps[8]?.getD undef = .float .f32 x := hI.has 3 8 rfl (hall ⟨3, .data⟩ (by simp) rfl)
      have g9 : act.tmps[9]?.getD undef = .float .f32 u := hI.has 4 9 rfl (hall ⟨4, .data⟩ (by simp) rfl)
      clear hI hall hnot hcl
      refine .inl ⟨wanted_none rfl, ?_⟩
      unfold Oper.wp
      go_simp
      exact ⟨_, rfl, ⟨_, rfl, canonF rfl rfl⟩, by first | exact ⟨_, rfl⟩ | exact hdd _ _⟩
    · simp at hq; subst hq
      obtain ⟨r5, g10, h5a⟩ := hI.has 5 10 rfl (hall ⟨5, .data⟩ (by simp) rfl)
      clear hI hall hnot hcl
      refine .inl ⟨wanted_none rfl, ?_⟩
      unfold Oper.wp
      go_simp
      exact ⟨_, rfl, ⟨_, rfl, h5a⟩, ⟨_, rfl⟩⟩
    · simp at hq
  case hend =>
    intro listed act w3 hI hall
    obtain ⟨nn, rfl⟩ := hI.cls
    obtain ⟨rq, g4, hrq⟩ := hI.has 6 4 rfl (hall 6 (by decide))
    have hd := hI.defers
    clear hI hall
    go_wp2
    refine bodyPost_ret (v := .float .f32 rq) (by simp [results, Try.results79, g4, go_sem]) (by first | rfl | exact hd) ⟨rq, rfl, hrq, nn, rfl⟩
set_option maxHeartbeats 4000000 in
set_option maxRecDepth 100000 in
theorem i_listOf_scl (c0 c1 : Value) (q : Nat → Nat) (n : Nat) (w : World) (hn : n ≤ 1048576)
    (hat : ∀ k, k < n → ∀ wr, Below w.heap.size w wr → Calls Try.prog 79 #[.int .i64 k, c0, c1] wr fun e w' => ∃ r, e = .returned (.float .f32 r) ∧ canon .f32 r = q k ∧ Below wr.heap.size wr w') :
    Calls Try.prog 53 #[.int .i64 n, .func (.func 79) #[] #[c0, c1]] w fun e w' => ∃ (A : Option Addr) (xs : List Nat), e = .returned (.slice A n n) ∧ xs.length = n ∧ Fl w' A xs ∧ (∀ k, k < n → canon .f32 (xs.getD k 0) = q k) ∧ Below w.heap.size w w' ∧ A = some ⟨w.heap.size, 0, none⟩ ∧ Own w' w.heap.size xs := by
  have hmk := make_f32 n w hn
  have HA := Lib.hid hat; clear hat
  go_enter Try.func53, Try.ntmps53
  go_wp2
  go_loopw [11] (fun i wr => ∃ (k : Nat) (ys : List Nat), k ≤ n ∧ i = .int .i64 k ∧ FlNew w wr w.heap.size n k ys ∧ ys.length = n ∧ Hid (∀ j, j < k → canon .f32 (ys.getD j 0) = q j)) (fun i _ => n - (intOf i).toNat)
  case atStart => exact ⟨0, List.replicate n 0, Nat.zero_le _, rfl, FlNew.start .., by simp, Lib.hid (fun j hj => absurd hj (Nat.not_lt_zero j))⟩
  case round =>
    obtain ⟨k, ys, hk, rfl, hnew, hlen, hq⟩ := hrel
    clear hmk
    by_cases hlt : k < n
    · have hcall := HA.out k hlt _ hnew.1
      have HN := Lib.hid hnew; clear hnew
      have hwr : IntKind.i64.wrap ((k : Int) + 1) = (k : Int) + 1 := IntWalk.i64_in _ (by omega)
      go_wp2_with fail
      refine hcall.mono ?_
      rintro e w1 ⟨r, rfl, hr, b1⟩
      have hn1 := HN.out.below b1
      obtain ⟨hc2, hc3⟩ := hn1.2.2.2 k hlt
      rw [if_neg (by omega)] at hc2
      have hst := (hn1.congr (ys := ys.set k r) (fun j hj => by rw [getD_lset (by omega), if_neg (by omega)])).step hlt
      rw [getD_lset (by omega), if_pos rfl] at hst
      have HS := Lib.hid hst
      have HQ : Hid (∀ j, j < k + 1 → canon .f32 ((ys.set k r).getD j 0) = q j) := Lib.hid (fun j hj => by
        rw [getD_lset (by omega)]
        by_cases e : k = j
        · rw [if_pos e, hr, e]
        · rw [if_neg e]; exact hq.out j (by omega))
      clear hst hn1 hr b1 hcall
      go_wp2
      go_roundw
      case rel => exact ⟨k + 1, ys.set k r, by omega, by go_num, HS.out, by simp [hlen], HQ⟩
      case measure => simp [intOf]; omega
    · have HN := Lib.hid hnew; clear hnew
      have hkk : k = n := by omega
      subst hkk
      go_wp2
      go_ret
      exact ⟨_, ys, rfl, hlen, by subst hlen; exact HN.out.done (Nat.le_refl _), hq.out, HN.out.1, rfl, by subst hlen; exact Own.of_new HN.out (Nat.le_refl _)⟩
set_option maxHeartbeats 4000000 in
theorem i_scaled (A : Option Addr) (cap u : Nat) (xs : List Nat) (w : World) (h : Fl w A xs) (hn : xs.length ≤ 1048576) :
    Calls Try.prog 78 #[.slice A xs.length cap, .float .f32 u] w fun e w' => ∃ c g ys, e = .returned (.slice (some ⟨g, 0, none⟩) ys.length c) ∧ Own w' g ys ∧ w.heap.size ≤ g ∧ CL ys (sclY xs u) ∧ Below w.heap.size w w' := by
  have HF := Lib.hid h; clear h
  obtain ⟨w0, hw0⟩ : ∃ w0, w0 = (w.alloc (.cells #[.slice A xs.length cap] 22)).alloc (.cells #[.float .f32 u] 31) := ⟨_, rfl⟩
  have B0 : Hid (Below w.heap.size w w0) := Lib.hid (by rw [hw0]; exact ((Below.refl _ _).alloc (Nat.le_refl _) _).alloc (by simp) _)
  have K0 : Hid (BlkL w0 w.heap.size [.slice A xs.length cap]) := Lib.hid (by rw [hw0]; exact (blkL_at w #[.slice A xs.length cap] _ rfl).alloc _)
  have K1 : Hid (BlkL w0 (w.heap.size + 1) [.float .f32 u]) := Lib.hid (by rw [hw0]; exact blkL_at (w.alloc _) #[.float .f32 u] _ (by simp))
  go_enter Try.func78, Try.ntmps78
  go_wp2_with fail
  rw [← hw0]
  clear hw0
  refine (i_listOf_scl _ _ (fun k => fop .mul .f32 (canon .f32 (xs.getD k 0)) (canon .f32 u)) xs.length _ hn (fun k hk wr hb => (i_sclAt w.heap.size (w.heap.size + 1) k xs.length cap u A xs wr (HF.out.below (below_of B0.out B0.out.size hb)) rfl (K0.out.below hb).oneP (K1.out.below hb).oneP hk).mono fun e w' ⟨r, he, hr, n, hw⟩ => ⟨r, he, hr, by rw [hw]; exact below_draws (Below.refl _ _) _⟩)).mono ?_
  rintro e w5 ⟨Y, ys, rfl, hlen, -, hq, b3, rfl, hown⟩
  have HR : Hid (Own w5 w0.heap.size ys ∧ w.heap.size ≤ w0.heap.size ∧ CL ys (sclY xs u) ∧ Below w.heap.size w w5) := Lib.hid ⟨hown, B0.out.size, CL.of_canon hlen (sclY_length ..) hq (fun k hk => by rw [sclY_at hk, canon_fop]), below_of B0.out B0.out.size b3⟩
  have HL := Lib.hid hlen
  clear hown hq b3 hlen
  go_wp2
  go_ret
  obtain ⟨r1, r2, r3, r4⟩ := HR.out
  exact ⟨xs.length, _, ys, by rw [HL.out]; rfl, r1, r2, r3, r4⟩
set_option maxHeartbeats 16000000 in
set_option maxRecDepth 100000 in
theorem i_ScaleProfile (A L D : Option Addr) (ca cl cd : Nat) (a l d : List Nat) (lf df : Nat) (w : World) (h : Pf w A L D a l d) (hn : Few a l d) :
    Calls Try.prog 29 #[.agg #[.slice A a.length ca, .slice L l.length cl, .slice D d.length cd], .float .f32 lf, .float .f32 df] w fun e w' => ∃ (R1 R2 R3 : Option Addr) (c1 c2 c3 g1 g2 g3 : Nat), e = .returned (.tuple #[.agg #[.slice R1 (gLp (sclO a l d lf df) a).length c1, .slice R2 (gLp (sclO a l d lf df) (sclY l lf)).length c2, .slice R3 (gLp (sclO a l d lf df) (sclY d df)).length c3], .bool (sclO a l d lf df)]) ∧ OwnQ w' w.heap.size R1 R2 R3 g1 g2 g3 (gLp (sclO a l d lf df) a) (gLp (sclO a l d lf df) (sclY l lf)) (gLp (sclO a l d lf df) (sclY d df)) ∧ Below w.heap.size w w' := by
  have HP := Lib.hid h; clear h
  have HON : Hid (validP a l d = false → sclO a l d lf df = false) := Lib.hid (fun v0 => by unfold sclO; rw [v0]; rfl)
  have HOY : Hid (validP a l d = true → sclO a l d lf df = validP a (sclY l lf) (sclY d df)) := Lib.hid (fun v0 => by unfold sclO; rw [v0]; rfl)
  generalize sclO a l d lf df = O at HON HOY ⊢
  generalize hY : (sclY l lf) = Y at HOY ⊢
  generalize hZ : (sclY d df) = Z at HOY ⊢
  have HYE : Hid (Y = sclY l lf) := Lib.hid hY.symm
  have HZE : Hid (Z = sclY d df) := Lib.hid hZ.symm
  clear hY hZ
  obtain ⟨w0, hw0⟩ : ∃ x, x = (w.alloc (.cells #[.slice A a.length ca, .slice L l.length cl, .slice D d.length cd] 24)).alloc (.cells #[.slice none 0 0, .slice none 0 0, .slice none 0 0] 24) := ⟨_, rfl⟩
  have K0 : Hid (BlkL w0 w.heap.size [.slice A a.length ca, .slice L l.length cl, .slice D d.length cd]) := Lib.hid (by rw [hw0]; exact (blkL_at w #[.slice A a.length ca, .slice L l.length cl, .slice D d.length cd] _ rfl).alloc _)
  have KR : Hid (BlkL w0 (w.heap.size + 1) [.slice none 0 0, .slice none 0 0, .slice none 0 0]) := Lib.hid (by rw [hw0]; exact blkL_at (w.alloc _) #[.slice none 0 0, .slice none 0 0, .slice none 0 0] _ (by simp))
  have B0 : Hid (Below w.heap.size w w0) := Lib.hid (by rw [hw0]; exact ((Below.refl _ _).alloc (Nat.le_refl _) _).alloc (by simp) _)
  have Z0 : Hid (w0.heap.size = w.heap.size + 2) := Lib.hid (by rw [hw0]; simp)
  obtain ⟨k0, k1, k2⟩ := K0.out.three
  go_enter Try.func29, Try.ntmps29
  go_wp2_with fail
  rw [← hw0]
  clear hw0
  refine (i_ValidProfile A L D ca cl cd a l d _ (HP.out.below B0.out) hn).mono ?_
  rintro e w1 ⟨rfl, b1⟩
  clear k0 k1 k2
  have L0 : Hid (BlkL w1 w.heap.size [.slice A a.length ca, .slice L l.length cl, .slice D d.length cd]) := Lib.hid (K0.out.below b1)
  have LR : Hid (BlkL w1 (w.heap.size + 1) [.slice none 0 0, .slice none 0 0, .slice none 0 0]) := Lib.hid (KR.out.below b1)
  have B1 : Hid (Below w.heap.size w w1) := Lib.hid (below_of B0.out B0.out.size b1)
  have Z1 : Hid (w.heap.size + 2 ≤ w1.heap.size) := Lib.hid (by have := b1.size; have := Z0.out; omega)
  clear b1 K0 KR
  cases v0 : validP a l d
  · have HN := Lib.hid (HON.out v0)
    clear v0
    have p0 := (LR.out.2 0 _ rfl).1
    have q0 := (LR.out.2 0 _ rfl).2
    have p1 := (LR.out.2 1 _ rfl).1
    have q1 := (LR.out.2 1 _ rfl).2
    have p2 := (LR.out.2 2 _ rfl).1
    have q2 := (LR.out.2 2 _ rfl).2
    go_wp2
    refine bodyPost_ret (v := .tuple #[.agg #[.slice none 0 0, .slice none 0 0, .slice none 0 0], .bool false]) ?_ rfl ?_
    · simp [results, Try.results29, go_sem, p0, p1, p2]
    · rw [HN.out]
      exact ⟨none, none, none, 0, 0, 0, 0, 1, 2, rfl, OwnQ.none _ _, (((B1.out).setCell (p := ⟨w.heap.size + 1, 0, none⟩) (by show w.heap.size ≤ w.heap.size + 1; omega) _).setCell (p := ⟨w.heap.size + 1, 1, none⟩) (by show w.heap.size ≤ w.heap.size + 1; omega) _).setCell (p := ⟨w.heap.size + 1, 2, none⟩) (by show w.heap.size ≤ w.heap.size + 1; omega) _⟩
  · obtain ⟨s1, s2, s3, s4⟩ := sized_of v0
    have HO := Lib.hid (HOY.out v0)
    have HS : Hid (l.length = a.length ∧ d.length = a.length) := Lib.hid ⟨s3, s4⟩
    have HLEN : Hid (a.length ≤ 24 ∧ Y.length ≤ 24 ∧ Z.length ≤ 24) := Lib.hid (by rw [HYE.out, HZE.out, sclY_length, sclY_length]; omega)
    clear v0 s3 s4
    have z1 := Z1.out
    go_wp2_with fail
    have hFin := PFin.below ((w.heap.size + 1)) w1.heap.size O a Y Z
    refine wp_region_inv7 (fun iq wv v => match iq with
      | 0 => v = .pointer (some ⟨w.heap.size, 0, none⟩)
      | 1 => v = .slice A a.length ca
      | 2 => ∃ cp bk xs, v = .slice (some ⟨bk, 0, none⟩) xs.length cp ∧ Own wv bk xs ∧ w1.heap.size ≤ bk ∧ CL xs a
      | 3 => v = .func (.func 78) #[] #[]
      | 4 => v = .pointer (some ⟨w.heap.size, 1, none⟩)
      | 5 => v = .slice L l.length cl
      | 6 => v = .float .f32 lf
      | 7 => ∃ cp bk xs, v = .slice (some ⟨bk, 0, none⟩) xs.length cp ∧ Own wv bk xs ∧ w1.heap.size ≤ bk ∧ CL xs Y
      | 8 => v = .func (.func 78) #[] #[]
      | 9 => v = .pointer (some ⟨w.heap.size, 2, none⟩)
      | 10 => v = .slice D d.length cd
      | 11 => v = .float .f32 df
      | 12 => ∃ cp bk xs, v = .slice (some ⟨bk, 0, none⟩) xs.length cp ∧ Own wv bk xs ∧ w1.heap.size ≤ bk ∧ CL xs Z
      | 13 => ∃ da ka xa db kb xb dc kc xc, v = .agg #[.slice (some ⟨ka, 0, none⟩) xa.length da, .slice (some ⟨kb, 0, none⟩) xb.length db, .slice (some ⟨kc, 0, none⟩) xc.length dc] ∧ OwnQ wv w1.heap.size (some ⟨ka, 0, none⟩) (some ⟨kb, 0, none⟩) (some ⟨kc, 0, none⟩) ka kb kc xa xb xc ∧ (CL xa a ∧ CL xb Y ∧ CL xc Z)
      | 14 => PGiv w1.heap.size O a Y Z wv v
      | 15 => PAgg w1.heap.size O a Y Z wv v
      | 16 => v = .bool O
      | 17 => True
      | 18 => v = .bool O
      | _ => False) (fun listed aa ww => StC w1 ((w.heap.size + 1)) 3 17 (PFin ((w.heap.size + 1)) w1.heap.size O a Y Z) listed ww ∧ AP [15, 20, 25] aa ww) (fun wa wb => Turn wa wb (fun b => b = (w.heap.size + 1))) ?hmono (by kernel_rfl) (by kernel_rfl) ⟨StC.start LR.out rfl, AP.start (by rfl)⟩ ?hop ?hend
    case hmono =>
      intro i wa wb v hR hV
      rcases i with _ | _ | _ | _ | _ | _ | _ | _ | _ | _ | _ | _ | _ | _ | _ | _ | _ | _ | _ | i
      · exact hV
      · exact hV
      · obtain ⟨cp, bk, xs, rfl, ho, hb, hr⟩ := hV; exact ⟨cp, bk, xs, rfl, ho.turn hR (by show ¬ bk = _; omega), hb, hr⟩
      · exact hV
      · exact hV
      · exact hV
      · exact hV
      · obtain ⟨cp, bk, xs, rfl, ho, hb, hr⟩ := hV; exact ⟨cp, bk, xs, rfl, ho.turn hR (by show ¬ bk = _; omega), hb, hr⟩
      · exact hV
      · exact hV
      · exact hV
      · exact hV
      · obtain ⟨cp, bk, xs, rfl, ho, hb, hr⟩ := hV; exact ⟨cp, bk, xs, rfl, ho.turn hR (by show ¬ bk = _; omega), hb, hr⟩
      · obtain ⟨da, ka, xa, db, kb, xb, dc, kc, xc, rfl, ho, hr⟩ := hV; exact ⟨da, ka, xa, db, kb, xb, dc, kc, xc, rfl, OwnQ.turn' ho hR (fun b h1 _ hb => by have hb : b = _ := hb; omega), hr⟩
      · exact hV.turn hR (by omega)
      · exact hV.turn hR (by omega)
      · exact hV
      · exact hV
      · exact hV
      · exact hV
    case hop =>
      intro q o hq listed act w3 hI hCA hnot hcl hall
      obtain ⟨hC, hA⟩ := hCA
      have hlen : listed.size = 19 := hI.len
      obtain ⟨kx0, kx1, kx2⟩ := (L0.out.turnS hC.1 (by intro e; omega)).three
      rcases q with _ | _ | _ | _ | _ | _ | _ | _ | _ | _ | _ | _ | _ | _ | _ | _ | _ | _ | _ | q
      · simp at hq; subst hq
        have g3 : act.tmps[3]?.getD undef = .pointer (some ⟨w.heap.size, 0, none⟩) := hI.kept 3 (by kernel_rfl)
        have hA2 := fun v => AP.other (k := 13) hA (by decide) v
        clear hI hall hnot hcl
        refine .inl ⟨wanted_none rfl, ?_⟩
        unfold Oper.wp
        go_simp
        all_goals exact ⟨_, rfl, Turn.refl _ _, rfl, StC.step (k := 0) hC (Below.refl _ _) hFin (by decide) (by rw [hlen]; decide), hA2 _⟩
      · simp at hq; subst hq
        have g13 : act.tmps[13]?.getD undef = .pointer (some ⟨w.heap.size, 0, none⟩) := hI.has 0 13 rfl (hall ⟨0, .data⟩ (by simp) rfl)
        have hA2 := fun v => AP.other (k := 14) hA (by decide) v
        clear hI hall hnot hcl
        refine .inl ⟨wanted_none rfl, ?_⟩
        unfold Oper.wp
        go_simp
        all_goals exact ⟨_, rfl, Turn.refl _ _, rfl, StC.step (k := 1) hC (Below.refl _ _) hFin (by decide) (by rw [hlen]; decide), hA2 _⟩
      · simp at hq; subst hq
        have g14 : act.tmps[14]?.getD undef = .slice A a.length ca := hI.has 1 14 rfl (hall ⟨1, .data⟩ (by simp) rfl)
        clear hI hall hnot hcl
        refine .inl ⟨wanted_none rfl, ?_⟩
        unfold Oper.wp
        go_simp
        refine (lib_CloneP A ca a w3 (HP.out.1.turnW B1.out hC.1 (by omega)) (by omega) (by omega)).mono ?_
        rintro e w4 ⟨cp, bk, rfl, ho, hlo, b4⟩
        have hz := hC.1.1
        exact ⟨_, rfl, Turn.of_below b4 _, ⟨cp, bk, a, rfl, ho, by omega, CL.rfl' _⟩, StC.step (k := 2) hC b4 hFin (by decide) (by rw [hlen]; decide), AP.new hA b4.size hlo ho.1⟩
      · simp at hq; subst hq
        have g8 : act.tmps[8]?.getD undef = .func (.func 78) #[] #[] := hI.kept 8 (by kernel_rfl)
        have hA2 := fun v => AP.other (k := 16) hA (by decide) v
        clear hI hall hnot hcl
        refine .inl ⟨wanted_none rfl, ?_⟩
        unfold Oper.wp
        go_simp
        all_goals exact ⟨_, rfl, Turn.refl _ _, rfl, StC.step (k := 3) hC (Below.refl _ _) hFin (by decide) (by rw [hlen]; decide), hA2 _⟩
      · simp at hq; subst hq
        have g3 : act.tmps[3]?.getD undef = .pointer (some ⟨w.heap.size, 0, none⟩) := hI.kept 3 (by kernel_rfl)
        have hA2 := fun v => AP.other (k := 17) hA (by decide) v
        clear hI hall hnot hcl
        refine .inl ⟨wanted_none rfl, ?_⟩
        unfold Oper.wp
        go_simp
        all_goals exact ⟨_, rfl, Turn.refl _ _, rfl, StC.step (k := 4) hC (Below.refl _ _) hFin (by decide) (by rw [hlen]; decide), hA2 _⟩
      · simp at hq; subst hq
        have g17 : act.tmps[17]?.getD undef = .pointer (some ⟨w.heap.size, 1, none⟩) := hI.has 4 17 rfl (hall ⟨4, .data⟩ (by simp) rfl)
        have hA2 := fun v => AP.other (k := 18) hA (by decide) v
        clear hI hall hnot hcl
        refine .inl ⟨wanted_none rfl, ?_⟩
        unfold Oper.wp
        go_simp
        all_goals exact ⟨_, rfl, Turn.refl _ _, rfl, StC.step (k := 5) hC (Below.refl _ _) hFin (by decide) (by rw [hlen]; decide), hA2 _⟩
      · simp at hq; subst hq
        have g1 : act.tmps[1]?.getD undef = .float .f32 lf := hI.kept 1 (by kernel_rfl)
        have hA2 := fun v => AP.other (k := 19) hA (by decide) v
        clear hI hall hnot hcl
        refine .inl ⟨wanted_none rfl, ?_⟩
        unfold Oper.wp
        go_simp
        all_goals exact ⟨_, rfl, Turn.refl _ _, rfl, StC.step (k := 6) hC (Below.refl _ _) hFin (by decide) (by rw [hlen]; decide), hA2 _⟩
      · simp at hq; subst hq
        have g16 : act.tmps[16]?.getD undef = .func (.func 78) #[] #[] := hI.has 3 16 rfl (hall ⟨3, .data⟩ (by simp) rfl)
        have g18 : act.tmps[18]?.getD undef = .slice L l.length cl := hI.has 5 18 rfl (hall ⟨5, .data⟩ (by simp) rfl)
        have g19 : act.tmps[19]?.getD undef = .float .f32 lf := hI.has 6 19 rfl (hall ⟨6, .data⟩ (by simp) rfl)
        clear hI hall hnot hcl
        refine .inl ⟨wanted_none rfl, ?_⟩
        unfold Oper.wp
        go_simp
        refine (i_scaled L cl lf l w3 (HP.out.2.1.turnW B1.out hC.1 (by omega)) (by have := HS.out; omega)).mono ?_
        rintro e w4 ⟨cp, bk, xs, rfl, ho, hlo, hcx, b4⟩
        have hz := hC.1.1
        exact ⟨_, rfl, Turn.of_below b4 _, ⟨cp, bk, xs, rfl, ho, by omega, by rw [HYE.out]; exact hcx⟩, StC.step (k := 7) hC b4 hFin (by decide) (by rw [hlen]; decide), AP.new hA b4.size hlo ho.1⟩
      · simp at hq; subst hq
        have g8 : act.tmps[8]?.getD undef = .func (.func 78) #[] #[] := hI.kept 8 (by kernel_rfl)
        have hA2 := fun v => AP.other (k := 21) hA (by decide) v
        clear hI hall hnot hcl
        refine .inl ⟨wanted_none rfl, ?_⟩
        unfold Oper.wp
        go_simp
        all_goals exact ⟨_, rfl, Turn.refl _ _, rfl, StC.step (k := 8) hC (Below.refl _ _) hFin (by decide) (by rw [hlen]; decide), hA2 _⟩
      · simp at hq; subst hq
        have g3 : act.tmps[3]?.getD undef = .pointer (some ⟨w.heap.size, 0, none⟩) := hI.kept 3 (by kernel_rfl)
        have hA2 := fun v => AP.other (k := 22) hA (by decide) v
        clear hI hall hnot hcl
        refine .inl ⟨wanted_none rfl, ?_⟩
        unfold Oper.wp
        go_simp
        all_goals exact ⟨_, rfl, Turn.refl _ _, rfl, StC.step (k := 9) hC (Below.refl _ _) hFin (by decide) (by rw [hlen]; decide), hA2 _⟩
      · simp at hq; subst hq
        have g22 : act.tmps[22]?.getD undef = .pointer (some ⟨w.heap.size, 2, none⟩) := hI.has 9 22 rfl (hall ⟨9, .data⟩ (by simp) rfl)
        have hA2 := fun v => AP.other (k := 23) hA (by decide) v
        clear hI hall hnot hcl
        refine .inl ⟨wanted_none rfl, ?_⟩
        unfold Oper.wp
        go_simp
        all_goals exact ⟨_, rfl, Turn.refl _ _, rfl, StC.step (k := 10) hC (Below.refl _ _) hFin (by decide) (by rw [hlen]; decide), hA2 _⟩
      · simp at hq; subst hq
        have g2 : act.tmps[2]?.getD undef = .float .f32 df := hI.kept 2 (by kernel_rfl)
        have hA2 := fun v => AP.other (k := 24) hA (by decide) v
        clear hI hall hnot hcl
        refine .inl ⟨wanted_none rfl, ?_⟩
        unfold Oper.wp
        go_simp
        all_goals exact ⟨_, rfl, Turn.refl _ _, rfl, StC.step (k := 11) hC (Below.refl _ _) hFin (by decide) (by rw [hlen]; decide), hA2 _⟩
      · simp at hq; subst hq
        have g21 : act.tmps[21]?.getD undef = .func (.func 78) #[] #[] := hI.has 8 21 rfl (hall ⟨8, .data⟩ (by simp) rfl)
        have g23 : act.tmps[23]?.getD undef = .slice D d.length cd := hI.has 10 23 rfl (hall ⟨10, .data⟩ (by simp) rfl)
        have g24 : act.tmps[24]?.getD undef = .float .f32 df := hI.has 11 24 rfl (hall ⟨11, .data⟩ (by simp) rfl)
        clear hI hall hnot hcl
        refine .inl ⟨wanted_none rfl, ?_⟩
        unfold Oper.wp
        go_simp
        refine (i_scaled D cd df d w3 (HP.out.2.2.turnW B1.out hC.1 (by omega)) (by have := HS.out; omega)).mono ?_
        rintro e w4 ⟨cp, bk, xs, rfl, ho, hlo, hcx, b4⟩
        have hz := hC.1.1
        exact ⟨_, rfl, Turn.of_below b4 _, ⟨cp, bk, xs, rfl, ho, by omega, by rw [HZE.out]; exact hcx⟩, StC.step (k := 12) hC b4 hFin (by decide) (by rw [hlen]; decide), AP.new hA b4.size hlo ho.1⟩
      · simp at hq; subst hq
        obtain ⟨cp2, bk2, xs2, g15, h2a, h2b, h2c⟩ := hI.has 2 15 rfl (hall ⟨2, .data⟩ (by simp) rfl)
        obtain ⟨cp7, bk7, xs7, g20, h7a, h7b, h7c⟩ := hI.has 7 20 rfl (hall ⟨7, .data⟩ (by simp) rfl)
        obtain ⟨cp12, bk12, xs12, g25, h12a, h12b, h12c⟩ := hI.has 12 25 rfl (hall ⟨12, .data⟩ (by simp) rfl)
        have hA2 := fun v => AP.other (k := 26) hA (by decide) v
        clear hI hall hnot hcl
        refine .inl ⟨wanted_none rfl, ?_⟩
        unfold Oper.wp
        go_simp
        have e12 := (hA.2 15 (by decide) 20 (by decide) (by decide) _ _ _ _ _ _ _ _ (by rw [Array.getD_eq_getD_getElem?]; exact g15) (by rw [Array.getD_eq_getD_getElem?]; exact g20))
        have e13 := (hA.2 15 (by decide) 25 (by decide) (by decide) _ _ _ _ _ _ _ _ (by rw [Array.getD_eq_getD_getElem?]; exact g15) (by rw [Array.getD_eq_getD_getElem?]; exact g25))
        have e23 := (hA.2 20 (by decide) 25 (by decide) (by decide) _ _ _ _ _ _ _ _ (by rw [Array.getD_eq_getD_getElem?]; exact g20) (by rw [Array.getD_eq_getD_getElem?]; exact g25))
        exact ⟨_, rfl, Turn.refl _ _, ⟨cp2, bk2, xs2, cp7, bk7, xs7, cp12, bk12, xs12, rfl, ⟨Own.o h2a h2b, Own.o h7a h7b, Own.o h12a h12b, e12, e13, e23⟩, h2c, h7c, h12c⟩, StC.step (k := 13) hC (Below.refl _ _) hFin (by decide) (by rw [hlen]; decide), hA2 _⟩
      · simp at hq; subst hq
        obtain ⟨da13, ka13, xa13, db13, kb13, xb13, dc13, kc13, xc13, g26, h13a, h13b⟩ := hI.has 13 26 rfl (hall ⟨13, .data⟩ (by simp) rfl)
        have hA2 := fun v => AP.other (k := 27) hA (by decide) v
        clear hI hall hnot hcl
        refine .inl ⟨wanted_none rfl, ?_⟩
        unfold Oper.wp
        go_simp
        refine (i_GiveQ _ _ _ _ _ _ _ _ _ w1.heap.size xa13 xb13 xc13 a Y Z O w3 h13a h13b.1 h13b.2.1 h13b.2.2 HO.out (by have h1 := h13b.1.1; have h2 := h13b.2.1.1; have h3 := h13b.2.2.1; have h4 := HLEN.out; unfold Few; omega)).mono ?_
        rintro e w4 ⟨Ra, Rb, Rc, da, db, dc, ka, kb, kc, rfl, ho, b4⟩
        exact ⟨_, rfl, Turn.of_below b4 _, PGiv.mk' ho, StC.step (k := 14) hC b4 hFin (by decide) (by rw [hlen]; decide), (hA2 _).grow b4.size⟩
      · simp at hq; subst hq
        obtain ⟨Ra14, Rb14, Rc14, da14, db14, dc14, ka14, kb14, kc14, g27, h14a⟩ := hI.has 14 27 rfl (hall ⟨14, .data⟩ (by simp) rfl)
        have hA2 := fun v => AP.other (k := 28) hA (by decide) v
        clear hI hall hnot hcl
        refine .inl ⟨wanted_none rfl, ?_⟩
        unfold Oper.wp
        go_simp
        exact ⟨_, rfl, Turn.refl _ _, PAgg.mk' h14a, StC.step (k := 15) hC (Below.refl _ _) hFin (by decide) (by rw [hlen]; decide), hA2 _⟩
      · simp at hq; subst hq
        obtain ⟨Ra14, Rb14, Rc14, da14, db14, dc14, ka14, kb14, kc14, g27, h14a⟩ := hI.has 14 27 rfl (hall ⟨14, .data⟩ (by simp) rfl)
        have hA2 := fun v => AP.other (k := 29) hA (by decide) v
        clear hI hall hnot hcl
        refine .inl ⟨wanted_none rfl, ?_⟩
        unfold Oper.wp
        go_simp
        all_goals exact ⟨_, rfl, Turn.refl _ _, rfl, StC.step (k := 16) hC (Below.refl _ _) hFin (by decide) (by rw [hlen]; decide), hA2 _⟩
      · simp at hq; subst hq
        have g6 : act.tmps[6]?.getD undef = .pointer (some ⟨(w.heap.size + 1), 0, none⟩) := hI.kept 6 (by kernel_rfl)
        obtain ⟨Ra15, Rb15, Rc15, da15, db15, dc15, ka15, kb15, kc15, g28, h15a⟩ := hI.has 15 28 rfl (hall ⟨15, .data⟩ (by simp) rfl)
        have hA2 := fun v => AP.skip hA v
        clear hI hall hnot hcl
        refine .inl ⟨wanted_none rfl, ?_⟩
        unfold Oper.wp
        go_simp
        obtain ⟨vs, hvs, hvl⟩ := hC.2.1
        match vs, hvs, hvl with
        | [a0, a1, a2], hvs, _ =>
        have p0 := (hvs.2 0 _ rfl).1
        have q0 := (hvs.2 0 _ rfl).2
        have p1 := (hvs.2 1 _ rfl).1
        have q1 := (hvs.2 1 _ rfl).2
        have p2 := (hvs.2 2 _ rfl).1
        have q2 := (hvs.2 2 _ rfl).2
        go_simp
        have hf := (((hvs.set (i := 0) (by simp) (.slice Ra15 (gLp O a).length da15)).set (i := 1) (by simp) (.slice Rb15 (gLp O Y).length db15)).set (i := 2) (by simp) (.slice Rc15 (gLp O Z).length dc15))
        have ht := (((Turn.set w3 (B := (w.heap.size + 1)) ⟨(w.heap.size + 1), 0, none⟩ rfl (.slice Ra15 (gLp O a).length da15)).trans (Turn.set _ (B := (w.heap.size + 1)) ⟨(w.heap.size + 1), 1, none⟩ rfl (.slice Rb15 (gLp O Y).length db15))).trans (Turn.set _ (B := (w.heap.size + 1)) ⟨(w.heap.size + 1), 2, none⟩ rfl (.slice Rc15 (gLp O Z).length dc15)))
        have hn := (((h15a.setC (p := ⟨(w.heap.size + 1), 0, none⟩) (by show (w.heap.size + 1) < _; omega) (.slice Ra15 (gLp O a).length da15)).setC (p := ⟨(w.heap.size + 1), 1, none⟩) (by show (w.heap.size + 1) < _; omega) (.slice Rb15 (gLp O Y).length db15)).setC (p := ⟨(w.heap.size + 1), 2, none⟩) (by show (w.heap.size + 1) < _; omega) (.slice Rc15 (gLp O Z).length dc15))
        have hst := StC.store (st := 17) hC ht hf rfl ⟨Ra15, Rb15, Rc15, da15, db15, dc15, ka15, kb15, kc15, hf, hn⟩
        have hap := (hA2 undef).grow ht.1
        first | exact ⟨ht, trivial, hst, hap⟩ | exact ⟨ht, hst, hap⟩
      · simp at hq; subst hq
        have g29 : act.tmps[29]?.getD undef = .bool O := hI.has 16 29 rfl (hall ⟨16, .data⟩ (by simp) rfl)
        have hA2 := fun v => AP.other (k := 7) hA (by decide) v
        clear hI hall hnot hcl
        refine .inl ⟨wanted_none rfl, ?_⟩
        unfold Oper.wp
        go_simp
        all_goals exact ⟨_, rfl, Turn.refl _ _, rfl, StC.step (k := 18) hC (Below.refl _ _) hFin (by decide) (by rw [hlen]; decide), hA2 _⟩
      · simp at hq
    case hend =>
      intro listed act w3 hI hCA hall
      obtain ⟨hC, hA⟩ := hCA
      have hlen : listed.size = 19 := hI.len
      obtain ⟨kx0, kx1, kx2⟩ := (L0.out.turnS hC.1 (by intro e; omega)).three
      obtain ⟨Ra, Rb, Rc, da, db, dc, ka, kb, kc, hf, hown⟩ := hC.2.2 (hall 17 (by decide))
      have ht := hC.1
      have g6 : act.tmps[6]?.getD undef = .pointer (some ⟨(w.heap.size + 1), 0, none⟩) := hI.kept 6 (by kernel_rfl)
      have g7 : act.tmps[7]?.getD undef = .bool O := hI.has 18 7 rfl (hall 18 (by decide))
      have hd := hI.defers
      clear hI hall hFin hC hA
      have c0 := (hf.2 0 _ rfl).1
      have c1 := (hf.2 1 _ rfl).1
      have c2 := (hf.2 2 _ rfl).1
      go_wp2
      refine bodyPost_ret (v := .tuple #[.agg #[.slice Ra (gLp O a).length da, .slice Rb (gLp O Y).length db, .slice Rc (gLp O Z).length dc], .bool O]) (by simp [results, Try.results29, g6, g7, c0, c1, c2, go_sem]) (by first | rfl | exact hd) ?_
      have hbw := ht.2.2.2 w B1.out (fun b hb => by have hb : b = (w.heap.size + 1) := hb; omega)
      first | exact ⟨Ra, Rb, Rc, da, db, dc, ka, kb, kc, rfl, hown.base B1.out.size, hbw⟩ | exact ⟨Ra, Rb, Rc, ⟨da, db, dc, rfl⟩, ⟨ka, kb, kc, hown.base B1.out.size⟩, hbw⟩
end Go.Proofs.Ytplofbkollhjpaa
