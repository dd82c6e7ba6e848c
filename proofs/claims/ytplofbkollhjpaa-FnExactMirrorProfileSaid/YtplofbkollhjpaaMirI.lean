/- MirrorProfile: the program's side. No statement is proved here. -/
import Derived.Test.YtplofbkollhjpaaPim
import Derived.Test.YtplofbkollhjpaaMirS
import Derived.Test.YtplofbkollhjpaaSclI
namespace Go.Proofs.Ytplofbkollhjpaa
open Go Go.RowKit
theorem i_oppAt (B Bc k n cap : Nat) (A : Option Addr) (xs : List Nat) (w : World) (h : Fl w A xs) (hl : xs.length = n) (hn : n ≤ 24) (k0 : w.cell? ⟨B, 0, none⟩ = some (.slice A n cap)) (k1 : w.cell? ⟨Bc, 0, none⟩ = some (.int .i64 n)) (hk : k < n) :
    Calls Try.prog 75 #[.int .i64 k, .pointer (some ⟨B, 0, none⟩), .pointer (some ⟨Bc, 0, none⟩)] w fun e w' => e = .returned (.float .f32 (Op.negFloat .f32 (xs.getD (n - 1 - k) 0))) ∧ w' = w := by
  obtain ⟨j, hj⟩ : ∃ j, j = n - 1 - k := ⟨_, rfl⟩
  have hjn : j < n := by omega
  rw [← hj]
  obtain ⟨b, off, rfl, -, hc⟩ := h.at_ (show j < xs.length by omega)
  generalize xs.getD j 0 = x at hc ⊢
  have hw0 : IntKind.i64.wrap ((n : Int) - 1) = (n : Int) - 1 := IntWalk.i64_in _ (by omega)
  have hw1 : IntKind.i64.wrap ((n : Int) - 1 - (k : Int)) = (j : Int) := by rw [IntWalk.i64_in _ (by omega)]; omega
  clear h hl hj
  go_enter Try.func75, Try.ntmps75
  go_wp2
  go_ret
  exact ⟨rfl, rfl⟩
set_option maxHeartbeats 4000000 in
set_option maxRecDepth 100000 in
theorem i_listOf_mir (c0 c1 : Value) (q : Nat → Nat) (n : Nat) (w : World) (hn : n ≤ 1048576)
    (hat : ∀ k, k < n → ∀ wr, Below w.heap.size w wr → Calls Try.prog 75 #[.int .i64 k, c0, c1] wr fun e w' => ∃ r, e = .returned (.float .f32 r) ∧ canon .f32 r = q k ∧ Below wr.heap.size wr w') :
    Calls Try.prog 53 #[.int .i64 n, .func (.func 75) #[] #[c0, c1]] w fun e w' => ∃ (A : Option Addr) (xs : List Nat), e = .returned (.slice A n n) ∧ xs.length = n ∧ Fl w' A xs ∧ (∀ k, k < n → canon .f32 (xs.getD k 0) = q k) ∧ Below w.heap.size w w' ∧ A = some ⟨w.heap.size, 0, none⟩ ∧ Own w' w.heap.size xs := by
  have hmk := make_f32 n w hn
  have HA := Lib.hid hat; clear hat
  go_enter Try.func53, Try.ntmps53
  go_wp2
  go_loopw [11] (fun i wr => ∃ (k : Nat) (ys : List Nat), k ≤ n ∧ i = .int .i64 k ∧ FlNew w wr w.heap.size n k ys ∧ ys.length = n ∧ Hid (∀ j, j < k → canon .f32 (ys.getD j 0) = q j)) (fun i _ => n - (intOf i).toNat)
  case atStart => exact ⟨0, List.replicate n 0, Nat.zero_le _, rfl, FlNew.start .., by simp, Lib.hid (fun j hj => absurd hj (Nat.not_lt_zero j))⟩
  case round =>
    obtain ⟨k, ys, hk, rfl, hnew, hlen, hq⟩ := hrel
    clear hmk
    by_cases hlt : k < n
    · have hcall := HA.out k hlt _ hnew.1
      have HN := Lib.hid hnew; clear hnew
      have hwr : IntKind.i64.wrap ((k : Int) + 1) = (k : Int) + 1 := IntWalk.i64_in _ (by omega)
      go_wp2_with fail
      refine hcall.mono ?_
      rintro e w1 ⟨r, rfl, hr, b1⟩
      have hn1 := HN.out.below b1
      obtain ⟨hc2, hc3⟩ := hn1.2.2.2 k hlt
      rw [if_neg (by omega)] at hc2
      have hst := (hn1.congr (ys := ys.set k r) (fun j hj => by rw [getD_lset (by omega), if_neg (by omega)])).step hlt
      rw [getD_lset (by omega), if_pos rfl] at hst
      have HS := Lib.hid hst
      have HQ : Hid (∀ j, j < k + 1 → canon .f32 ((ys.set k r).getD j 0) = q j) := Lib.hid (fun j hj => by
        rw [getD_lset (by omega)]
        by_cases e : k = j
        · rw [if_pos e, hr, e]
        · rw [if_neg e]; exact hq.out j (by omega))
      clear hst hn1 hr b1 hcall
      go_wp2
      go_roundw
      case rel => exact ⟨k + 1, ys.set k r, by omega, by go_num, HS.out, by simp [hlen], HQ⟩
      case measure => simp [intOf]; omega
    · have HN := Lib.hid hnew; clear hnew
      have hkk : k = n := by omega
      subst hkk
      go_wp2
      go_ret
      exact ⟨_, ys, rfl, hlen, by subst hlen; exact HN.out.done (Nat.le_refl _), hq.out, HN.out.1, rfl, by subst hlen; exact Own.of_new HN.out (Nat.le_refl _)⟩
set_option maxHeartbeats 4000000 in
theorem i_opposite (A : Option Addr) (n cap Bc : Nat) (xs : List Nat) (w : World) (h : Fl w A xs) (hl : xs.length = n) (hn : n ≤ 24) (kc : BlkL w Bc [.int .i64 n]) :
    Calls Try.prog 74 #[.slice A n cap, .pointer (some ⟨Bc, 0, none⟩)] w fun e w' => ∃ c g zs, e = .returned (.slice (some ⟨g, 0, none⟩) zs.length c) ∧ Own w' g zs ∧ w.heap.size ≤ g ∧ CL zs (mirA xs) ∧ Below w.heap.size w w' := by
  subst hl
  have HF := Lib.hid h; clear h
  obtain ⟨w0, hw0⟩ : ∃ w0, w0 = w.alloc (.cells #[.slice A xs.length cap] 22) := ⟨_, rfl⟩
  have B0 : Hid (Below w.heap.size w w0) := Lib.hid (by rw [hw0]; exact (Below.refl _ _).alloc (Nat.le_refl _) _)
  have K0 : Hid (BlkL w0 w.heap.size [.slice A xs.length cap]) := Lib.hid (by rw [hw0]; exact blkL_at w #[.slice A xs.length cap] _ rfl)
  have K2 : Hid (BlkL w0 Bc [.int .i64 xs.length]) := Lib.hid (kc.below B0.out)
  clear kc
  have kc0 := K2.out.oneP
  rw [hw0] at kc0
  go_enter Try.func74, Try.ntmps74
  go_wp2_with fail
  rw [← hw0]
  clear hw0 kc0
  refine (i_listOf_mir _ _ (fun k => canon .f32 (Op.negFloat .f32 (xs.getD (xs.length - 1 - k) 0))) xs.length _ (by omega) (fun k hk wr hb => (i_oppAt w.heap.size Bc k xs.length cap A xs wr (HF.out.below (below_of B0.out B0.out.size hb)) rfl hn (K0.out.below hb).oneP (K2.out.below hb).oneP hk).mono fun e w' ⟨he, hw⟩ => ⟨_, he, rfl, by rw [hw]; exact Below.refl _ _⟩)).mono ?_
  rintro e w5 ⟨Y, zs, rfl, hlen, -, hq, b3, rfl, hown⟩
  have HR : Hid (Own w5 w0.heap.size zs ∧ w.heap.size ≤ w0.heap.size ∧ CL zs (mirA xs) ∧ Below w.heap.size w w5) := Lib.hid ⟨hown, B0.out.size, CL.of_canon hlen (mirA_length _) hq (fun k hk => by rw [mirA_at hk]), below_of B0.out B0.out.size b3⟩
  have HLZ := Lib.hid hlen
  clear hown hq b3 hlen
  go_wp2
  go_ret
  obtain ⟨r1, r2, r3, r4⟩ := HR.out
  exact ⟨xs.length, _, zs, by rw [HLZ.out]; rfl, r1, r2, r3, r4⟩
set_option maxHeartbeats 16000000 in
set_option maxRecDepth 100000 in
theorem i_MirrorProfile (A L D : Option Addr) (ca cl cd : Nat) (a l d : List Nat) (w : World) (h : Pf w A L D a l d) (hn : Few a l d) :
    Calls Try.prog 27 #[.agg #[.slice A a.length ca, .slice L l.length cl, .slice D d.length cd]] w fun e w' => ∃ (R1 R2 R3 : Option Addr) (c1 c2 c3 g1 g2 g3 : Nat), e = .returned (.tuple #[.agg #[.slice R1 (gLp (validP a l d) (mirA a)).length c1, .slice R2 (gLp (validP a l d) (mirA l)).length c2, .slice R3 (gLp (validP a l d) (mirD d)).length c3], .bool (validP a l d)]) ∧ OwnQ w' w.heap.size R1 R2 R3 g1 g2 g3 (gLp (validP a l d) (mirA a)) (gLp (validP a l d) (mirA l)) (gLp (validP a l d) (mirD d)) ∧ Below w.heap.size w w' := by
  have HP := Lib.hid h; clear h
  have HOY : Hid (validP a l d = true → (validP a l d) = validP (mirA a) (mirA l) (mirD d)) := Lib.hid (fun h => by rw [h, validP_mir h])
  generalize hO : validP a l d = O at HOY ⊢
  have HOO : Hid (validP a l d = O) := Lib.hid hO
  clear hO
  generalize hX : (mirA a) = X at HOY ⊢
  generalize hY : (mirA l) = Y at HOY ⊢
  generalize hZ : (mirD d) = Z at HOY ⊢
  have HXE : Hid (X = (mirA a)) := Lib.hid hX.symm
  have HYE : Hid (Y = (mirA l)) := Lib.hid hY.symm
  have HZE : Hid (Z = (mirD d)) := Lib.hid hZ.symm
  clear hX hY hZ
  obtain ⟨w0, hw0⟩ : ∃ x, x = (w.alloc (.cells #[.slice A a.length ca, .slice L l.length cl, .slice D d.length cd] 24)).alloc (.cells #[.slice none 0 0, .slice none 0 0, .slice none 0 0] 24) := ⟨_, rfl⟩
  have K0 : Hid (BlkL w0 w.heap.size [.slice A a.length ca, .slice L l.length cl, .slice D d.length cd]) := Lib.hid (by rw [hw0]; exact (blkL_at w #[.slice A a.length ca, .slice L l.length cl, .slice D d.length cd] _ rfl).alloc _)
  have KR : Hid (BlkL w0 (w.heap.size + 1) [.slice none 0 0, .slice none 0 0, .slice none 0 0]) := Lib.hid (by rw [hw0]; exact blkL_at (w.alloc _) #[.slice none 0 0, .slice none 0 0, .slice none 0 0] _ (by simp))
  have B0 : Hid (Below w.heap.size w w0) := Lib.hid (by rw [hw0]; exact ((Below.refl _ _).alloc (Nat.le_refl _) _).alloc (by simp) _)
  have Z0 : Hid (w0.heap.size = w.heap.size + 2) := Lib.hid (by rw [hw0]; simp)
  obtain ⟨k0, k1, k2⟩ := K0.out.three
  go_enter Try.func27, Try.ntmps27
  go_wp2_with fail
  rw [← hw0]
  clear hw0
  refine (i_ValidProfile A L D ca cl cd a l d _ (HP.out.below B0.out) hn).mono ?_
  rintro e wq ⟨rfl, b1⟩
  clear k0 k1 k2
  have Lq : Hid (BlkL wq w.heap.size [.slice A a.length ca, .slice L l.length cl, .slice D d.length cd]) := Lib.hid (K0.out.below b1)
  have Rq : Hid (BlkL wq (w.heap.size + 1) [.slice none 0 0, .slice none 0 0, .slice none 0 0]) := Lib.hid (KR.out.below b1)
  have Bq : Hid (Below w.heap.size w wq) := Lib.hid (below_of B0.out B0.out.size b1)
  have Zq : Hid (w.heap.size + 2 ≤ wq.heap.size) := Lib.hid (by have := b1.size; have := Z0.out; omega)
  clear b1 K0 KR
  cases v0 : validP a l d
  · have HN : Hid (O = false) := Lib.hid (by rw [← HOO.out]; exact v0)
    clear v0
    have p0 := (Rq.out.2 0 _ rfl).1
    have q0 := (Rq.out.2 0 _ rfl).2
    have p1 := (Rq.out.2 1 _ rfl).1
    have q1 := (Rq.out.2 1 _ rfl).2
    have p2 := (Rq.out.2 2 _ rfl).1
    have q2 := (Rq.out.2 2 _ rfl).2
    go_wp2
    refine bodyPost_ret (v := .tuple #[.agg #[.slice none 0 0, .slice none 0 0, .slice none 0 0], .bool false]) ?_ rfl ?_
    · simp [results, Try.results27, go_sem, p0, p1, p2]
    · rw [HN.out]
      exact ⟨none, none, none, 0, 0, 0, 0, 1, 2, rfl, OwnQ.none _ _, (((Bq.out).setCell (p := ⟨w.heap.size + 1, 0, none⟩) (by show w.heap.size ≤ w.heap.size + 1; omega) _).setCell (p := ⟨w.heap.size + 1, 1, none⟩) (by show w.heap.size ≤ w.heap.size + 1; omega) _).setCell (p := ⟨w.heap.size + 1, 2, none⟩) (by show w.heap.size ≤ w.heap.size + 1; omega) _⟩
  · obtain ⟨s1, s2, s3, s4⟩ := sized_of v0
    have HO : Hid (O = validP X Y Z) := Lib.hid (HOY.out (by rw [← HOO.out]; exact v0))
    have HS : Hid (l.length = a.length ∧ d.length = a.length) := Lib.hid ⟨s3, s4⟩
    have HLEN : Hid (X.length ≤ 24 ∧ Y.length ≤ 24 ∧ Z.length ≤ 24) := Lib.hid (by rw [HXE.out, HYE.out, HZE.out, mirA_length, mirA_length, mirD_length]; omega)
    have HZD : Hid (Z.length = d.length) := Lib.hid (by rw [HZE.out, mirD_length])
    have HCA : Hid (∀ W, Fl W A a → BlkL W wq.heap.size [.int .i64 a.length] → Calls Try.prog 74 #[.slice A a.length ca, .pointer (some ⟨wq.heap.size, 0, none⟩)] W fun e w' => ∃ c g zs, e = .returned (.slice (some ⟨g, 0, none⟩) zs.length c) ∧ Own w' g zs ∧ W.heap.size ≤ g ∧ CL zs X ∧ Below W.heap.size W w') := Lib.hid (fun W h1 h3 => by rw [HXE.out]; exact i_opposite A _ ca _ a W h1 rfl s2 h3)
    have HCL : Hid (∀ W, Fl W L l → BlkL W wq.heap.size [.int .i64 a.length] → Calls Try.prog 74 #[.slice L l.length cl, .pointer (some ⟨wq.heap.size, 0, none⟩)] W fun e w' => ∃ c g zs, e = .returned (.slice (some ⟨g, 0, none⟩) zs.length c) ∧ Own w' g zs ∧ W.heap.size ≤ g ∧ CL zs Y ∧ Below W.heap.size W w') := Lib.hid (fun W h1 h3 => by rw [HYE.out]; exact i_opposite L _ cl _ l W h1 rfl (by rw [HS.out.1]; exact s2) (by rw [HS.out.1]; exact h3))
    clear v0 s3 s4
    have zq := Zq.out
    obtain ⟨wr, hwr⟩ : ∃ x, x = wq.alloc (.cells #[.int .i64 a.length] 3) := ⟨_, rfl⟩
    have br : Below wq.heap.size wq wr := by rw [hwr]; exact (Below.refl _ _).alloc (Nat.le_refl _) _
    have Lr := Lib.hid (Lq.out.below br)
    have Rr := Lib.hid (Rq.out.below br)
    have LCr : Hid (BlkL wr wq.heap.size [.int .i64 a.length]) := Lib.hid (by rw [hwr]; exact blkL_at wq #[.int .i64 a.length] _ rfl)
    have Br : Hid (Below w.heap.size w wr) := Lib.hid (below_of Bq.out Bq.out.size br)
    have zr : wq.heap.size ≤ wr.heap.size := br.size
    clear br
    have r0 := Lq.out.three.1
    have r2 := fun o => (Lq.out.alloc o).three.2.2
    go_wp2_with fail
    rw [← hwr]
    clear hwr r0 r2
    refine (lib_CloneP D cd d _ (HP.out.2.2.below Br.out) (by have := HS.out; omega) (by have := HS.out; omega)).mono ?_
    rintro e ws ⟨cR, gR, rfl, hoR, hlR, bs⟩
    have Ls := Lib.hid (Lr.out.below bs)
    have Rs' := Lib.hid (Rr.out.below bs)
    have LCs := Lib.hid (LCr.out.below bs)
    have Bs : Hid (Below w.heap.size w ws) := Lib.hid (below_of Br.out Br.out.size bs)
    have zs : wr.heap.size ≤ ws.heap.size := bs.size
    have hgs : gR < ws.heap.size := hoR.1
    have HOR := Lib.hid hoR
    clear bs hoR
    go_wp2_with fail
    refine (lib_ReverseP gR d.length cR d _ HOR.out rfl (by have := HS.out; omega) (by have := HS.out; omega)).mono ?_
    rintro e w1 ⟨rfl, hoz, tz⟩
    have L0 : Hid (BlkL w1 w.heap.size [.slice A a.length ca, .slice L l.length cl, .slice D d.length cd]) := Lib.hid (Ls.out.turnS tz (by intro e; omega))
    have LR : Hid (BlkL w1 (w.heap.size + 1) [.slice none 0 0, .slice none 0 0, .slice none 0 0]) := Lib.hid (Rs'.out.turnS tz (by intro e; omega))
    have LC : Hid (BlkL w1 wq.heap.size [.int .i64 a.length]) := Lib.hid (LCs.out.turnS tz (by intro e; have := LCs.out.1; have := LCr.out.1; omega))
    have B1 : Hid (Below w.heap.size w w1) := Lib.hid (tz.2.2.2 w Bs.out (fun b hb => by have hb : b = gR := hb; omega))
    have LOZ : Hid (Own w1 gR Z) := Lib.hid (by rw [HZE.out]; exact hoz)
    have z1 : ws.heap.size ≤ w1.heap.size := tz.1
    clear hoz tz
    go_wp2_with fail
    have hFin := PFin.below ((w.heap.size + 1)) wq.heap.size O X Y Z
    refine wp_region_inv7 (fun iq wv v => match iq with
      | 0 => v = .func (.func 74) #[] #[.pointer (some ⟨wq.heap.size, 0, none⟩)]
      | 1 => v = .pointer (some ⟨w.heap.size, 0, none⟩)
      | 2 => v = .slice A a.length ca
      | 3 => ∃ cp bk xs, v = .slice (some ⟨bk, 0, none⟩) xs.length cp ∧ Own wv bk xs ∧ w1.heap.size ≤ bk ∧ CL xs X
      | 4 => v = .func (.func 74) #[] #[.pointer (some ⟨wq.heap.size, 0, none⟩)]
      | 5 => v = .pointer (some ⟨w.heap.size, 1, none⟩)
      | 6 => v = .slice L l.length cl
      | 7 => ∃ cp bk xs, v = .slice (some ⟨bk, 0, none⟩) xs.length cp ∧ Own wv bk xs ∧ w1.heap.size ≤ bk ∧ CL xs Y
      | 8 => v = .slice (some ⟨gR, 0, none⟩) d.length cR
      | 9 => ∃ da ka xa db kb xb dc kc xc, v = .agg #[.slice (some ⟨ka, 0, none⟩) xa.length da, .slice (some ⟨kb, 0, none⟩) xb.length db, .slice (some ⟨kc, 0, none⟩) xc.length dc] ∧ OwnQ wv wq.heap.size (some ⟨ka, 0, none⟩) (some ⟨kb, 0, none⟩) (some ⟨kc, 0, none⟩) ka kb kc xa xb xc ∧ (CL xa X ∧ CL xb Y ∧ CL xc Z)
      | 10 => PGiv wq.heap.size O X Y Z wv v
      | 11 => PAgg wq.heap.size O X Y Z wv v
      | 12 => v = .bool O
      | 13 => True
      | 14 => v = .bool O
      | _ => False) (fun listed aa ww => StC w1 ((w.heap.size + 1)) 3 13 (PFin ((w.heap.size + 1)) wq.heap.size O X Y Z) listed ww ∧ AP [23, 27] aa ww) (fun wa wb => Turn wa wb (fun b => b = (w.heap.size + 1))) ?hmono (by kernel_rfl) (by kernel_rfl) ⟨StC.start LR.out rfl, AP.start (by rfl)⟩ ?hop ?hend
    case hmono =>
      intro i wa wb v hR hV
      rcases i with _ | _ | _ | _ | _ | _ | _ | _ | _ | _ | _ | _ | _ | _ | _ | i
      · exact hV
      · exact hV
      · exact hV
      · obtain ⟨cp, bk, xs, rfl, ho, hb, hr⟩ := hV; exact ⟨cp, bk, xs, rfl, ho.turn hR (by show ¬ bk = _; omega), hb, hr⟩
      · exact hV
      · exact hV
      · exact hV
      · obtain ⟨cp, bk, xs, rfl, ho, hb, hr⟩ := hV; exact ⟨cp, bk, xs, rfl, ho.turn hR (by show ¬ bk = _; omega), hb, hr⟩
      · exact hV
      · obtain ⟨da, ka, xa, db, kb, xb, dc, kc, xc, rfl, ho, hr⟩ := hV; exact ⟨da, ka, xa, db, kb, xb, dc, kc, xc, rfl, OwnQ.turn' ho hR (fun b h1 _ hb => by have hb : b = _ := hb; omega), hr⟩
      · exact hV.turn hR (by omega)
      · exact hV.turn hR (by omega)
      · exact hV
      · exact hV
      · exact hV
      · exact hV
    case hop =>
      intro q o hq listed act w3 hI hCA hnot hcl hall
      obtain ⟨hC, hA⟩ := hCA
      have hlen : listed.size = 15 := hI.len
      obtain ⟨kx0, kx1, kx2⟩ := (L0.out.turnS hC.1 (by intro e; omega)).three
      rcases q with _ | _ | _ | _ | _ | _ | _ | _ | _ | _ | _ | _ | _ | _ | _ | q
      · simp at hq; subst hq
        have g5 : act.tmps[5]?.getD undef = .func (.func 74) #[] #[.pointer (some ⟨wq.heap.size, 0, none⟩)] := hI.kept 5 (by kernel_rfl)
        have hA2 := fun v => AP.other (k := 20) hA (by decide) v
        clear hI hall hnot hcl
        refine .inl ⟨wanted_none rfl, ?_⟩
        unfold Oper.wp
        go_simp
        all_goals exact ⟨_, rfl, Turn.refl _ _, rfl, StC.step (k := 0) hC (Below.refl _ _) hFin (by decide) (by rw [hlen]; decide), hA2 _⟩
      · simp at hq; subst hq
        have g1 : act.tmps[1]?.getD undef = .pointer (some ⟨w.heap.size, 0, none⟩) := hI.kept 1 (by kernel_rfl)
        have hA2 := fun v => AP.other (k := 21) hA (by decide) v
        clear hI hall hnot hcl
        refine .inl ⟨wanted_none rfl, ?_⟩
        unfold Oper.wp
        go_simp
        all_goals exact ⟨_, rfl, Turn.refl _ _, rfl, StC.step (k := 1) hC (Below.refl _ _) hFin (by decide) (by rw [hlen]; decide), hA2 _⟩
      · simp at hq; subst hq
        have g21 : act.tmps[21]?.getD undef = .pointer (some ⟨w.heap.size, 0, none⟩) := hI.has 1 21 rfl (hall ⟨1, .data⟩ (by simp) rfl)
        have hA2 := fun v => AP.other (k := 22) hA (by decide) v
        clear hI hall hnot hcl
        refine .inl ⟨wanted_none rfl, ?_⟩
        unfold Oper.wp
        go_simp
        all_goals exact ⟨_, rfl, Turn.refl _ _, rfl, StC.step (k := 2) hC (Below.refl _ _) hFin (by decide) (by rw [hlen]; decide), hA2 _⟩
      · simp at hq; subst hq
        have g20 : act.tmps[20]?.getD undef = .func (.func 74) #[] #[.pointer (some ⟨wq.heap.size, 0, none⟩)] := hI.has 0 20 rfl (hall ⟨0, .data⟩ (by simp) rfl)
        have g22 : act.tmps[22]?.getD undef = .slice A a.length ca := hI.has 2 22 rfl (hall ⟨2, .data⟩ (by simp) rfl)
        clear hI hall hnot hcl
        refine .inl ⟨wanted_none rfl, ?_⟩
        unfold Oper.wp
        go_simp
        refine (HCA.out w3 (HP.out.1.turnW B1.out hC.1 (by omega)) (LC.out.turnS hC.1 (by intro e; omega))).mono ?_
        rintro e w4 ⟨cp, bk, xs, rfl, ho, hlo, hcx, b4⟩
        have hz := hC.1.1
        exact ⟨_, rfl, Turn.of_below b4 _, ⟨cp, bk, xs, rfl, ho, by omega, hcx⟩, StC.step (k := 3) hC b4 hFin (by decide) (by rw [hlen]; decide), AP.new hA b4.size hlo ho.1⟩
      · simp at hq; subst hq
        have g5 : act.tmps[5]?.getD undef = .func (.func 74) #[] #[.pointer (some ⟨wq.heap.size, 0, none⟩)] := hI.kept 5 (by kernel_rfl)
        have hA2 := fun v => AP.other (k := 24) hA (by decide) v
        clear hI hall hnot hcl
        refine .inl ⟨wanted_none rfl, ?_⟩
        unfold Oper.wp
        go_simp
        all_goals exact ⟨_, rfl, Turn.refl _ _, rfl, StC.step (k := 4) hC (Below.refl _ _) hFin (by decide) (by rw [hlen]; decide), hA2 _⟩
      · simp at hq; subst hq
        have g1 : act.tmps[1]?.getD undef = .pointer (some ⟨w.heap.size, 0, none⟩) := hI.kept 1 (by kernel_rfl)
        have hA2 := fun v => AP.other (k := 25) hA (by decide) v
        clear hI hall hnot hcl
        refine .inl ⟨wanted_none rfl, ?_⟩
        unfold Oper.wp
        go_simp
        all_goals exact ⟨_, rfl, Turn.refl _ _, rfl, StC.step (k := 5) hC (Below.refl _ _) hFin (by decide) (by rw [hlen]; decide), hA2 _⟩
      · simp at hq; subst hq
        have g25 : act.tmps[25]?.getD undef = .pointer (some ⟨w.heap.size, 1, none⟩) := hI.has 5 25 rfl (hall ⟨5, .data⟩ (by simp) rfl)
        have hA2 := fun v => AP.other (k := 26) hA (by decide) v
        clear hI hall hnot hcl
        refine .inl ⟨wanted_none rfl, ?_⟩
        unfold Oper.wp
        go_simp
        all_goals exact ⟨_, rfl, Turn.refl _ _, rfl, StC.step (k := 6) hC (Below.refl _ _) hFin (by decide) (by rw [hlen]; decide), hA2 _⟩
      · simp at hq; subst hq
        have g24 : act.tmps[24]?.getD undef = .func (.func 74) #[] #[.pointer (some ⟨wq.heap.size, 0, none⟩)] := hI.has 4 24 rfl (hall ⟨4, .data⟩ (by simp) rfl)
        have g26 : act.tmps[26]?.getD undef = .slice L l.length cl := hI.has 6 26 rfl (hall ⟨6, .data⟩ (by simp) rfl)
        clear hI hall hnot hcl
        refine .inl ⟨wanted_none rfl, ?_⟩
        unfold Oper.wp
        go_simp
        refine (HCL.out w3 (HP.out.2.1.turnW B1.out hC.1 (by omega)) (LC.out.turnS hC.1 (by intro e; omega))).mono ?_
        rintro e w4 ⟨cp, bk, xs, rfl, ho, hlo, hcx, b4⟩
        have hz := hC.1.1
        exact ⟨_, rfl, Turn.of_below b4 _, ⟨cp, bk, xs, rfl, ho, by omega, hcx⟩, StC.step (k := 7) hC b4 hFin (by decide) (by rw [hlen]; decide), AP.new hA b4.size hlo ho.1⟩
      · simp at hq; subst hq
        have g6 : act.tmps[6]?.getD undef = .slice (some ⟨gR, 0, none⟩) d.length cR := hI.kept 6 (by kernel_rfl)
        have hA2 := fun v => AP.other (k := 28) hA (by decide) v
        clear hI hall hnot hcl
        refine .inl ⟨wanted_none rfl, ?_⟩
        unfold Oper.wp
        go_simp
        all_goals exact ⟨_, rfl, Turn.refl _ _, rfl, StC.step (k := 8) hC (Below.refl _ _) hFin (by decide) (by rw [hlen]; decide), hA2 _⟩
      · simp at hq; subst hq
        obtain ⟨cp3, bk3, xs3, g23, h3a, h3b, h3c⟩ := hI.has 3 23 rfl (hall ⟨3, .data⟩ (by simp) rfl)
        obtain ⟨cp7, bk7, xs7, g27, h7a, h7b, h7c⟩ := hI.has 7 27 rfl (hall ⟨7, .data⟩ (by simp) rfl)
        have g28 : act.tmps[28]?.getD undef = .slice (some ⟨gR, 0, none⟩) d.length cR := hI.has 8 28 rfl (hall ⟨8, .data⟩ (by simp) rfl)
        have hA2 := fun v => AP.other (k := 29) hA (by decide) v
        clear hI hall hnot hcl
        refine .inl ⟨wanted_none rfl, ?_⟩
        unfold Oper.wp
        go_simp
        have e12 := (hA.2 23 (by decide) 27 (by decide) (by decide) _ _ _ _ _ _ _ _ (by rw [Array.getD_eq_getD_getElem?]; exact g23) (by rw [Array.getD_eq_getD_getElem?]; exact g27))
        have e13 := (show bk3 ≠ gR by omega)
        have e23 := (show bk7 ≠ gR by omega)
        exact ⟨_, rfl, Turn.refl _ _, ⟨cp3, bk3, xs3, cp7, bk7, xs7, cR, gR, Z, by rw [HZD.out], ⟨Own.o h3a (by omega), Own.o h7a (by omega), Own.o (LOZ.out.turn hC.1 (by show ¬ gR = _; omega)) (by omega), e12, e13, e23⟩, h3c, h7c, CL.rfl' _⟩, StC.step (k := 9) hC (Below.refl _ _) hFin (by decide) (by rw [hlen]; decide), hA2 _⟩
      · simp at hq; subst hq
        obtain ⟨da9, ka9, xa9, db9, kb9, xb9, dc9, kc9, xc9, g29, h9a, h9b⟩ := hI.has 9 29 rfl (hall ⟨9, .data⟩ (by simp) rfl)
        have hA2 := fun v => AP.other (k := 30) hA (by decide) v
        clear hI hall hnot hcl
        refine .inl ⟨wanted_none rfl, ?_⟩
        unfold Oper.wp
        go_simp
        refine (i_GiveQ _ _ _ _ _ _ _ _ _ wq.heap.size xa9 xb9 xc9 X Y Z O w3 h9a h9b.1 h9b.2.1 h9b.2.2 HO.out (by have h1 := h9b.1.1; have h2 := h9b.2.1.1; have h3 := h9b.2.2.1; have h4 := HLEN.out; unfold Few; omega)).mono ?_
        rintro e w4 ⟨Ra, Rb, Rc, da, db, dc, ka, kb, kc, rfl, ho, b4⟩
        exact ⟨_, rfl, Turn.of_below b4 _, PGiv.mk' ho, StC.step (k := 10) hC b4 hFin (by decide) (by rw [hlen]; decide), (hA2 _).grow b4.size⟩
      · simp at hq; subst hq
        obtain ⟨Ra10, Rb10, Rc10, da10, db10, dc10, ka10, kb10, kc10, g30, h10a⟩ := hI.has 10 30 rfl (hall ⟨10, .data⟩ (by simp) rfl)
        have hA2 := fun v => AP.other (k := 31) hA (by decide) v
        clear hI hall hnot hcl
        refine .inl ⟨wanted_none rfl, ?_⟩
        unfold Oper.wp
        go_simp
        exact ⟨_, rfl, Turn.refl _ _, PAgg.mk' h10a, StC.step (k := 11) hC (Below.refl _ _) hFin (by decide) (by rw [hlen]; decide), hA2 _⟩
      · simp at hq; subst hq
        obtain ⟨Ra10, Rb10, Rc10, da10, db10, dc10, ka10, kb10, kc10, g30, h10a⟩ := hI.has 10 30 rfl (hall ⟨10, .data⟩ (by simp) rfl)
        have hA2 := fun v => AP.other (k := 32) hA (by decide) v
        clear hI hall hnot hcl
        refine .inl ⟨wanted_none rfl, ?_⟩
        unfold Oper.wp
        go_simp
        all_goals exact ⟨_, rfl, Turn.refl _ _, rfl, StC.step (k := 12) hC (Below.refl _ _) hFin (by decide) (by rw [hlen]; decide), hA2 _⟩
      · simp at hq; subst hq
        have g2 : act.tmps[2]?.getD undef = .pointer (some ⟨(w.heap.size + 1), 0, none⟩) := hI.kept 2 (by kernel_rfl)
        obtain ⟨Ra11, Rb11, Rc11, da11, db11, dc11, ka11, kb11, kc11, g31, h11a⟩ := hI.has 11 31 rfl (hall ⟨11, .data⟩ (by simp) rfl)
        have hA2 := fun v => AP.skip hA v
        clear hI hall hnot hcl
        refine .inl ⟨wanted_none rfl, ?_⟩
        unfold Oper.wp
        go_simp
        obtain ⟨vs, hvs, hvl⟩ := hC.2.1
        match vs, hvs, hvl with
        | [a0, a1, a2], hvs, _ =>
        have p0 := (hvs.2 0 _ rfl).1
        have q0 := (hvs.2 0 _ rfl).2
        have p1 := (hvs.2 1 _ rfl).1
        have q1 := (hvs.2 1 _ rfl).2
        have p2 := (hvs.2 2 _ rfl).1
        have q2 := (hvs.2 2 _ rfl).2
        go_simp
        have hf := (((hvs.set (i := 0) (by simp) (.slice Ra11 (gLp O X).length da11)).set (i := 1) (by simp) (.slice Rb11 (gLp O Y).length db11)).set (i := 2) (by simp) (.slice Rc11 (gLp O Z).length dc11))
        have ht := (((Turn.set w3 (B := (w.heap.size + 1)) ⟨(w.heap.size + 1), 0, none⟩ rfl (.slice Ra11 (gLp O X).length da11)).trans (Turn.set _ (B := (w.heap.size + 1)) ⟨(w.heap.size + 1), 1, none⟩ rfl (.slice Rb11 (gLp O Y).length db11))).trans (Turn.set _ (B := (w.heap.size + 1)) ⟨(w.heap.size + 1), 2, none⟩ rfl (.slice Rc11 (gLp O Z).length dc11)))
        have hn := (((h11a.setC (p := ⟨(w.heap.size + 1), 0, none⟩) (by show (w.heap.size + 1) < _; omega) (.slice Ra11 (gLp O X).length da11)).setC (p := ⟨(w.heap.size + 1), 1, none⟩) (by show (w.heap.size + 1) < _; omega) (.slice Rb11 (gLp O Y).length db11)).setC (p := ⟨(w.heap.size + 1), 2, none⟩) (by show (w.heap.size + 1) < _; omega) (.slice Rc11 (gLp O Z).length dc11))
        have hst := StC.store (st := 13) hC ht hf rfl ⟨Ra11, Rb11, Rc11, da11, db11, dc11, ka11, kb11, kc11, hf, hn⟩
        have hap := (hA2 undef).grow ht.1
        first | exact ⟨ht, trivial, hst, hap⟩ | exact ⟨ht, hst, hap⟩
      · simp at hq; subst hq
        have g32 : act.tmps[32]?.getD undef = .bool O := hI.has 12 32 rfl (hall ⟨12, .data⟩ (by simp) rfl)
        have hA2 := fun v => AP.other (k := 3) hA (by decide) v
        clear hI hall hnot hcl
        refine .inl ⟨wanted_none rfl, ?_⟩
        unfold Oper.wp
        go_simp
        all_goals exact ⟨_, rfl, Turn.refl _ _, rfl, StC.step (k := 14) hC (Below.refl _ _) hFin (by decide) (by rw [hlen]; decide), hA2 _⟩
      · simp at hq
    case hend =>
      intro listed act w3 hI hCA hall
      obtain ⟨hC, hA⟩ := hCA
      have hlen : listed.size = 15 := hI.len
      obtain ⟨kx0, kx1, kx2⟩ := (L0.out.turnS hC.1 (by intro e; omega)).three
      obtain ⟨Ra, Rb, Rc, da, db, dc, ka, kb, kc, hf, hown⟩ := hC.2.2 (hall 13 (by decide))
      have ht := hC.1
      have g2 : act.tmps[2]?.getD undef = .pointer (some ⟨(w.heap.size + 1), 0, none⟩) := hI.kept 2 (by kernel_rfl)
      have g3 : act.tmps[3]?.getD undef = .bool O := hI.has 14 3 rfl (hall 14 (by decide))
      have hd := hI.defers
      clear hI hall hFin hC hA
      have c0 := (hf.2 0 _ rfl).1
      have c1 := (hf.2 1 _ rfl).1
      have c2 := (hf.2 2 _ rfl).1
      go_wp2
      refine bodyPost_ret (v := .tuple #[.agg #[.slice Ra (gLp O X).length da, .slice Rb (gLp O Y).length db, .slice Rc (gLp O Z).length dc], .bool O]) (by simp [results, Try.results27, g2, g3, c0, c1, c2, go_sem]) (by first | rfl | exact hd) ?_
      have hbw := ht.2.2.2 w B1.out (fun b hb => by have hb : b = (w.heap.size + 1) := hb; omega)
      first | exact ⟨Ra, Rb, Rc, da, db, dc, ka, kb, kc, rfl, hown.base (by omega), hbw⟩ | exact ⟨Ra, Rb, Rc, ⟨da, db, dc, rfl⟩, ⟨ka, kb, kc, hown.base (by omega)⟩, hbw⟩
end Go.Proofs.Ytplofbkollhjpaa
