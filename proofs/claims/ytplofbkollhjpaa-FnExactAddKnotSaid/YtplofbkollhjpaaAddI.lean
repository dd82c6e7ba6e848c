/- AddKnot: the program's side. No statement is proved here. -/
import Derived.Test.YtplofbkollhjpaaAddW
import Derived.Test.YtplofbkollhjpaaAddN
import Derived.Test.YtplofbkollhjpaaAddS
import Derived.Test.YtplofbkollhjpaaSclI
namespace Go.Proofs.Ytplofbkollhjpaa
open Go Go.RowKit
theorem found_isF {p : Nat → Bool} {xs : List Nat} {i : Int} {I : Nat} (h : Found p xs i) (hI : IsF (fun j => p (xs.getD j 0)) xs.length I) : (i = -1 ∧ I = xs.length) ∨ i = I := by
  rcases h with ⟨h1, h2⟩ | ⟨k, h1, h2, h3, h4⟩
  · exact .inl ⟨h1, isF_one hI ⟨Nat.le_refl _, h2, fun h => by omega⟩⟩
  · refine .inr ?_
    rw [h2, isF_one hI ⟨by omega, h4, fun _ => h3⟩]
set_option maxHeartbeats 4000000 in
set_option maxRecDepth 100000 in
theorem i_addC (x q B : Nat) (w : World) (hk : w.cell? ⟨B, 0, none⟩ = some (.float .f32 q)) :
    Calls Try.prog 70 #[.float .f32 x, .pointer (some ⟨B, 0, none⟩)] w fun e w' => e = .returned (.bool (geq32 x q)) ∧ ∃ n, w' = w.drewN n := by
  have HG : Hid (geq32 x q = (FloatKind.f32.format.order x q == some .gt || FloatKind.f32.format.order x q == some .eq)) := rfl
  generalize geq32 x q = g at HG ⊢
  go_enter Try.func70, Try.ntmps70
  go_wp2
  go_ret
  exact ⟨by rw [HG.out]; rfl, 0, rfl⟩
set_option maxHeartbeats 4000000 in
set_option maxRecDepth 100000 in
theorem lib_IndexFunc_addC (A : Option Addr) (cap q B : Nat) (xs : List Nat) (w : World) (h : Fl w A xs) (hn : xs.length ≤ 1048576) (hk : w.cell? ⟨B, 0, none⟩ = some (.float .f32 q)) :
    Calls Try.prog 69 #[.slice A xs.length cap, .func (.func 70) #[] #[.pointer (some ⟨B, 0, none⟩)]] w fun e w' => ∃ n i, e = .returned (.int .i64 i) ∧ Found (fun x => geq32 x q) xs i ∧ w' = w.drewN n := by
  have HK : Hid (∀ n, (w.drewN n).cell? ⟨B, 0, none⟩ = some (.float .f32 q)) := Lib.hid (fun n => hk)
  clear hk
  go_enter Try.func69, Try.ntmps69
  go_wp2
  go_loopw [8] (fun i wr => ∃ k n : Nat, k ≤ xs.length ∧ i = .int .i64 k ∧ Hid (NoneTill (fun x => geq32 x q) xs k) ∧ wr = w.drewN n) (fun i _ => xs.length - (intOf i).toNat)
  case atStart => exact ⟨0, 0, Nat.zero_le _, rfl, Lib.hid (fun j hj => by omega), rfl⟩
  case round =>
    obtain ⟨k, n, hk, rfl, hr, rfl⟩ := hrel
    by_cases hlt : k < xs.length
    · obtain ⟨b, off, rfl, hb, hc⟩ := h.at_ hlt
      have HB := Lib.hid h; clear h
      obtain ⟨x, hx⟩ : ∃ x, x = xs.getD k 0 := ⟨_, rfl⟩
      rw [← hx] at hc
      have HX := Lib.hid hx; clear hx
      go_wp2_with fail
      refine (i_addC x q B _ (HK.out _)).mono ?_
      rintro e w' ⟨rfl, m, rfl⟩
      cases hp : geq32 x q
      · have HS : Hid (NoneTill (fun x => geq32 x q) xs (k + 1)) := Lib.hid (hr.out.step (by show geq32 (xs.getD k 0) q = false; rw [← HX.out, hp]))
        clear hp
        go_wp2
        go_roundw
        case rel => exact ⟨k + 1, _, by omega, by go_num, HS, rfl⟩
        case measure => simp [intOf]; omega
      · have HS : Hid (Found (fun x => geq32 x q) xs k) := Lib.hid (.inr ⟨k, hlt, rfl, by show geq32 (xs.getD k 0) q = true; rw [← HX.out, hp], hr.out⟩)
        clear hp
        go_wp2
        go_ret
        exact ⟨_, _, rfl, HS.out, rfl⟩
    · have hkk : k = xs.length := by omega
      subst hkk
      have HB := Lib.hid h; clear h
      go_wp2
      go_ret
      exact ⟨_, _, rfl, .inl ⟨rfl, hr.out⟩, rfl⟩
set_option maxHeartbeats 16000000 in
set_option maxRecDepth 100000 in
theorem i_AddKnot (A L D : Option Addr) (ca cl cd : Nat) (a l d : List Nat) (q u vv : Nat) (w : World) (h : Pf w A L D a l d) (hn : Few a l d) (hca : a.length ≤ ca) (hcl : l.length ≤ cl) (hcd : d.length ≤ cd) :
    Calls Try.prog 23 #[.agg #[.slice A a.length ca, .slice L l.length cl, .slice D d.length cd], .float .f32 q, .float .f32 u, .float .f32 vv] w fun e w' => ∃ (R1 R2 R3 : Option Addr) (c1 c2 c3 g1 g2 g3 : Nat), e = .returned (.tuple #[.agg #[.slice R1 (gLp (addO a l d q u vv) (addL a a q q)).length c1, .slice R2 (gLp (addO a l d q u vv) (addL a l q u)).length c2, .slice R3 (gLp (addO a l d q u vv) (addL a d q vv)).length c3], .bool (addO a l d q u vv)]) ∧ OwnQ w' w.heap.size R1 R2 R3 g1 g2 g3 (gLp (addO a l d q u vv) (addL a a q q)) (gLp (addO a l d q u vv) (addL a l q u)) (gLp (addO a l d q u vv) (addL a d q vv)) ∧ Below w.heap.size w w' := by
  have HP := Lib.hid h; clear h
  have HCP : Hid (a.length ≤ ca ∧ l.length ≤ cl ∧ d.length ≤ cd) := Lib.hid ⟨hca, hcl, hcd⟩
  clear hca hcl hcd
  obtain ⟨I, hI⟩ := isF_ex (fun j => geq32 (a.getD j 0) q) a.length
  have HI := Lib.hid hI
  have HON : Hid (validP a l d = false → addO a l d q u vv = false) := Lib.hid addO_v
  have HOY : Hid (validP a l d = true → addO a l d q u vv = validP (insL a I q) (insL l I u) (insL d I vv)) := Lib.hid (fun h => (add_eq h hI).1)
  have hE : validP a l d = true → addO a l d q u vv = true → (addL a a q q) = insL a I q ∧ (addL a l q u) = insL l I u ∧ (addL a d q vv) = insL d I vv := fun h => (add_eq h hI).2
  have hE2 : gLp (addO a l d q u vv) (addL a a q q) = gLp (addO a l d q u vv) (insL a I q) ∧ gLp (addO a l d q u vv) (addL a l q u) = gLp (addO a l d q u vv) (insL l I u) ∧ gLp (addO a l d q u vv) (addL a d q vv) = gLp (addO a l d q u vv) (insL d I vv) := by
    cases hv : validP a l d
    · rw [HON.out hv]; exact ⟨rfl, rfl, rfl⟩
    · cases hO : addO a l d q u vv
      · exact ⟨rfl, rfl, rfl⟩
      · obtain ⟨h1, h2, h3⟩ := hE hv hO
        rw [h1, h2, h3]; exact ⟨rfl, rfl, rfl⟩
  rw [hE2.1, hE2.2.1, hE2.2.2]
  have hIn : I ≤ a.length := hI.1
  clear hE hE2 hI
  generalize addO a l d q u vv = O at HON HOY ⊢
  generalize hX : insL a I q = X at HOY ⊢
  generalize hY : insL l I u = Y at HOY ⊢
  generalize hZ : insL d I vv = Z at HOY ⊢
  have HXE : Hid (X = insL a I q) := Lib.hid hX.symm
  have HYE : Hid (Y = insL l I u) := Lib.hid hY.symm
  have HZE : Hid (Z = insL d I vv) := Lib.hid hZ.symm
  clear hX hY hZ
  obtain ⟨w0, hw0⟩ : ∃ x, x = ((w.alloc (.cells #[.slice A a.length ca, .slice L l.length cl, .slice D d.length cd] 24)).alloc (.cells #[.float .f32 q] 31)).alloc (.cells #[.slice none 0 0, .slice none 0 0, .slice none 0 0] 24) := ⟨_, rfl⟩
  have K0 : Hid (BlkL w0 w.heap.size [.slice A a.length ca, .slice L l.length cl, .slice D d.length cd]) := Lib.hid (by rw [hw0]; exact ((blkL_at w #[.slice A a.length ca, .slice L l.length cl, .slice D d.length cd] _ rfl).alloc _).alloc _)
  have KI : Hid (BlkL w0 (w.heap.size + 1) [.float .f32 q]) := Lib.hid (by rw [hw0]; exact (blkL_at (w.alloc _) #[.float .f32 q] _ (by simp)).alloc _)
  have KR : Hid (BlkL w0 (w.heap.size + 2) [.slice none 0 0, .slice none 0 0, .slice none 0 0]) := Lib.hid (by rw [hw0]; exact blkL_at ((w.alloc _).alloc _) #[.slice none 0 0, .slice none 0 0, .slice none 0 0] _ (by simp))
  have B0 : Hid (Below w.heap.size w w0) := Lib.hid (by rw [hw0]; exact (((Below.refl _ _).alloc (Nat.le_refl _) _).alloc (by simp) _).alloc (by simp; omega) _)
  have Z0 : Hid (w0.heap.size = w.heap.size + 3) := Lib.hid (by rw [hw0]; simp)
  obtain ⟨k0, k1, k2⟩ := K0.out.three
  go_enter Try.func23, Try.ntmps23
  go_wp2_with fail
  rw [← hw0]
  clear hw0
  refine (i_ValidProfile A L D ca cl cd a l d _ (HP.out.below B0.out) hn).mono ?_
  rintro e wq ⟨rfl, b1⟩
  clear k0 k1 k2
  have Lq : Hid (BlkL wq w.heap.size [.slice A a.length ca, .slice L l.length cl, .slice D d.length cd]) := Lib.hid (K0.out.below b1)
  have Iq : Hid (BlkL wq (w.heap.size + 1) [.float .f32 q]) := Lib.hid (KI.out.below b1)
  have Rq : Hid (BlkL wq (w.heap.size + 2) [.slice none 0 0, .slice none 0 0, .slice none 0 0]) := Lib.hid (KR.out.below b1)
  have Bq : Hid (Below w.heap.size w wq) := Lib.hid (below_of B0.out B0.out.size b1)
  have Zq : Hid (w.heap.size + 3 ≤ wq.heap.size) := Lib.hid (by have := b1.size; have := Z0.out; omega)
  clear b1 K0 KR KI
  cases v0 : validP a l d
  · have HN := Lib.hid (HON.out v0)
    clear v0
    have p0 := (Rq.out.2 0 _ rfl).1
    have q0 := (Rq.out.2 0 _ rfl).2
    have p1 := (Rq.out.2 1 _ rfl).1
    have q1 := (Rq.out.2 1 _ rfl).2
    have p2 := (Rq.out.2 2 _ rfl).1
    have q2 := (Rq.out.2 2 _ rfl).2
    go_wp2
    refine bodyPost_ret (v := .tuple #[.agg #[.slice none 0 0, .slice none 0 0, .slice none 0 0], .bool false]) ?_ rfl ?_
    · simp [results, Try.results23, go_sem, p0, p1, p2]
    · rw [HN.out]
      exact ⟨none, none, none, 0, 0, 0, 0, 1, 2, rfl, OwnQ.none _ _, (((Bq.out).setCell (p := ⟨w.heap.size + 2, 0, none⟩) (by show w.heap.size ≤ w.heap.size + 2; omega) _).setCell (p := ⟨w.heap.size + 2, 1, none⟩) (by show w.heap.size ≤ w.heap.size + 2; omega) _).setCell (p := ⟨w.heap.size + 2, 2, none⟩) (by show w.heap.size ≤ w.heap.size + 2; omega) _⟩
  · obtain ⟨s1, s2, s3, s4⟩ := sized_of v0
    have HS : Hid (l.length = a.length ∧ d.length = a.length) := Lib.hid ⟨s3, s4⟩
    have HO := Lib.hid (HOY.out v0)
    clear v0 s3 s4
    have kx := Lq.out.three.1
    go_wp2_with fail
    clear kx
    refine (lib_IndexFunc_addC A ca q (w.heap.size + 1) a _ (HP.out.1.below Bq.out) (by omega) Iq.out.oneP).mono ?_
    rintro e w1 ⟨n1, i, rfl, hf, hw⟩
    have b1 : Below wq.heap.size wq w1 := by rw [hw]; exact below_draws (Below.refl _ _) _
    have L0 : Hid (BlkL w1 w.heap.size [.slice A a.length ca, .slice L l.length cl, .slice D d.length cd]) := Lib.hid (Lq.out.below b1)
    have LI : Hid (BlkL w1 (w.heap.size + 1) [.float .f32 q]) := Lib.hid (Iq.out.below b1)
    have LR : Hid (BlkL w1 (w.heap.size + 2) [.slice none 0 0, .slice none 0 0, .slice none 0 0]) := Lib.hid (Rq.out.below b1)
    have B1 : Hid (Below w.heap.size w w1) := Lib.hid (below_of Bq.out Bq.out.size b1)
    have Z1 : Hid (w.heap.size + 3 ≤ w1.heap.size) := Lib.hid (by have := b1.size; have := Zq.out; omega)
    have hfi := found_isF hf HI.out
    clear b1 hw hf Lq Iq Rq Bq Zq
    have HCA : Hid (∀ W, Fl W A a → Calls Try.prog 71 #[.slice A a.length ca, .int .i64 I, .float .f32 q] W fun e w' => ∃ c g ys, e = .returned (.slice (some ⟨g, 0, none⟩) ys.length c) ∧ Own w' g ys ∧ W.heap.size ≤ g ∧ ys = insL a I q ∧ Below W.heap.size W w') := Lib.hid (fun W hf => i_withNumber I a.length ca q A a W hf rfl HCP.out.1 hIn s1 s2)
    have HCL : Hid (∀ W, Fl W L l → Calls Try.prog 71 #[.slice L l.length cl, .int .i64 I, .float .f32 u] W fun e w' => ∃ c g ys, e = .returned (.slice (some ⟨g, 0, none⟩) ys.length c) ∧ Own w' g ys ∧ W.heap.size ≤ g ∧ ys = insL l I u ∧ Below W.heap.size W w') := Lib.hid (fun W hf => i_withNumber I l.length cl u L l W hf rfl HCP.out.2.1 (by rw [HS.out.1]; exact hIn) (by rw [HS.out.1]; exact s1) (by rw [HS.out.1]; exact s2))
    have HCD : Hid (∀ W, Fl W D d → Calls Try.prog 71 #[.slice D d.length cd, .int .i64 I, .float .f32 vv] W fun e w' => ∃ c g ys, e = .returned (.slice (some ⟨g, 0, none⟩) ys.length c) ∧ Own w' g ys ∧ W.heap.size ≤ g ∧ ys = insL d I vv ∧ Below W.heap.size W w') := Lib.hid (fun W hf => i_withNumber I d.length cd vv D d W hf rfl HCP.out.2.2 (by rw [HS.out.2]; exact hIn) (by rw [HS.out.2]; exact s1) (by rw [HS.out.2]; exact s2))
    have HLEN : Hid (X.length ≤ 25 ∧ Y.length ≤ 25 ∧ Z.length ≤ 25) := Lib.hid (by rw [HXE.out, HYE.out, HZE.out, insL_length, insL_length, insL_length, HS.out.1, HS.out.2]; omega)
    have z1 := Z1.out
    have kx := L0.out.three.1
    have ki := LI.out.oneP
    clear HI
    rcases hfi with ⟨rfl, hIe⟩ | rfl
    · subst hIe
      go_wp2_with fail
      clear ki kx
      have hFin := PFin.below ((w.heap.size + 2)) w1.heap.size O X Y Z
      refine wp_region_inv7 (fun iq wv v => match iq with
        | 0 => v = .pointer (some ⟨w.heap.size, 0, none⟩)
        | 1 => v = .slice A a.length ca
        | 2 => v = .int .i64 a.length
        | 3 => v = .float .f32 q
        | 4 => ∃ cp bk xs, v = .slice (some ⟨bk, 0, none⟩) xs.length cp ∧ Own wv bk xs ∧ w1.heap.size ≤ bk ∧ CL xs X
        | 5 => v = .pointer (some ⟨w.heap.size, 1, none⟩)
        | 6 => v = .slice L l.length cl
        | 7 => v = .int .i64 a.length
        | 8 => v = .float .f32 u
        | 9 => ∃ cp bk xs, v = .slice (some ⟨bk, 0, none⟩) xs.length cp ∧ Own wv bk xs ∧ w1.heap.size ≤ bk ∧ CL xs Y
        | 10 => v = .pointer (some ⟨w.heap.size, 2, none⟩)
        | 11 => v = .slice D d.length cd
        | 12 => v = .int .i64 a.length
        | 13 => v = .float .f32 vv
        | 14 => ∃ cp bk xs, v = .slice (some ⟨bk, 0, none⟩) xs.length cp ∧ Own wv bk xs ∧ w1.heap.size ≤ bk ∧ CL xs Z
        | 15 => ∃ da ka xa db kb xb dc kc xc, v = .agg #[.slice (some ⟨ka, 0, none⟩) xa.length da, .slice (some ⟨kb, 0, none⟩) xb.length db, .slice (some ⟨kc, 0, none⟩) xc.length dc] ∧ OwnQ wv w1.heap.size (some ⟨ka, 0, none⟩) (some ⟨kb, 0, none⟩) (some ⟨kc, 0, none⟩) ka kb kc xa xb xc ∧ (CL xa X ∧ CL xb Y ∧ CL xc Z)
        | 16 => PGiv w1.heap.size O X Y Z wv v
        | 17 => PAgg w1.heap.size O X Y Z wv v
        | 18 => v = .bool O
        | 19 => True
        | 20 => v = .bool O
        | _ => False) (fun listed aa ww => StC w1 ((w.heap.size + 2)) 3 19 (PFin ((w.heap.size + 2)) w1.heap.size O X Y Z) listed ww ∧ AP [30, 35, 40] aa ww) (fun wa wb => Turn wa wb (fun b => b = (w.heap.size + 2))) ?hmono (by kernel_rfl) (by kernel_rfl) ⟨StC.start LR.out rfl, AP.start (by rfl)⟩ ?hop ?hend
      case hmono =>
        intro i wa wb v hR hV
        rcases i with _ | _ | _ | _ | _ | _ | _ | _ | _ | _ | _ | _ | _ | _ | _ | _ | _ | _ | _ | _ | _ | i
        · exact hV
        · exact hV
        · exact hV
        · exact hV
        · obtain ⟨cp, bk, xs, rfl, ho, hb, hr⟩ := hV; exact ⟨cp, bk, xs, rfl, ho.turn hR (by show ¬ bk = _; omega), hb, hr⟩
        · exact hV
        · exact hV
        · exact hV
        · exact hV
        · obtain ⟨cp, bk, xs, rfl, ho, hb, hr⟩ := hV; exact ⟨cp, bk, xs, rfl, ho.turn hR (by show ¬ bk = _; omega), hb, hr⟩
        · exact hV
        · exact hV
        · exact hV
        · exact hV
        · obtain ⟨cp, bk, xs, rfl, ho, hb, hr⟩ := hV; exact ⟨cp, bk, xs, rfl, ho.turn hR (by show ¬ bk = _; omega), hb, hr⟩
        · obtain ⟨da, ka, xa, db, kb, xb, dc, kc, xc, rfl, ho, hr⟩ := hV; exact ⟨da, ka, xa, db, kb, xb, dc, kc, xc, rfl, OwnQ.turn' ho hR (fun b h1 _ hb => by have hb : b = _ := hb; omega), hr⟩
        · exact hV.turn hR (by omega)
        · exact hV.turn hR (by omega)
        · exact hV
        · exact hV
        · exact hV
        · exact hV
      case hop =>
        intro q o hq listed act w3 hI hCA hnot hcl hall
        obtain ⟨hC, hA⟩ := hCA
        have hlen : listed.size = 21 := hI.len
        obtain ⟨kx0, kx1, kx2⟩ := (L0.out.turnS hC.1 (by intro e; omega)).three
        have ki := (LI.out.turnS hC.1 (by intro e; omega)).oneP
        rcases q with _ | _ | _ | _ | _ | _ | _ | _ | _ | _ | _ | _ | _ | _ | _ | _ | _ | _ | _ | _ | _ | q
        · simp at hq; subst hq
          have g4 : act.tmps[4]?.getD undef = .pointer (some ⟨w.heap.size, 0, none⟩) := hI.kept 4 (by kernel_rfl)
          have hA2 := fun v => AP.other (k := 26) hA (by decide) v
          clear hI hall hnot hcl
          refine .inl ⟨wanted_none rfl, ?_⟩
          unfold Oper.wp
          go_simp
          all_goals exact ⟨_, rfl, Turn.refl _ _, rfl, StC.step (k := 0) hC (Below.refl _ _) hFin (by decide) (by rw [hlen]; decide), hA2 _⟩
        · simp at hq; subst hq
          have g26 : act.tmps[26]?.getD undef = .pointer (some ⟨w.heap.size, 0, none⟩) := hI.has 0 26 rfl (hall ⟨0, .data⟩ (by simp) rfl)
          have hA2 := fun v => AP.other (k := 27) hA (by decide) v
          clear hI hall hnot hcl
          refine .inl ⟨wanted_none rfl, ?_⟩
          unfold Oper.wp
          go_simp
          all_goals exact ⟨_, rfl, Turn.refl _ _, rfl, StC.step (k := 1) hC (Below.refl _ _) hFin (by decide) (by rw [hlen]; decide), hA2 _⟩
        · simp at hq; subst hq
          have g10 : act.tmps[10]?.getD undef = .int .i64 a.length := hI.kept 10 (by kernel_rfl)
          have hA2 := fun v => AP.other (k := 28) hA (by decide) v
          clear hI hall hnot hcl
          refine .inl ⟨wanted_none rfl, ?_⟩
          unfold Oper.wp
          go_simp
          all_goals exact ⟨_, rfl, Turn.refl _ _, rfl, StC.step (k := 2) hC (Below.refl _ _) hFin (by decide) (by rw [hlen]; decide), hA2 _⟩
        · simp at hq; subst hq
          have g5 : act.tmps[5]?.getD undef = .pointer (some ⟨(w.heap.size + 1), 0, none⟩) := hI.kept 5 (by kernel_rfl)
          have hA2 := fun v => AP.other (k := 29) hA (by decide) v
          clear hI hall hnot hcl
          refine .inl ⟨wanted_none rfl, ?_⟩
          unfold Oper.wp
          go_simp
          all_goals exact ⟨_, rfl, Turn.refl _ _, rfl, StC.step (k := 3) hC (Below.refl _ _) hFin (by decide) (by rw [hlen]; decide), hA2 _⟩
        · simp at hq; subst hq
          have g27 : act.tmps[27]?.getD undef = .slice A a.length ca := hI.has 1 27 rfl (hall ⟨1, .data⟩ (by simp) rfl)
          have g28 : act.tmps[28]?.getD undef = .int .i64 a.length := hI.has 2 28 rfl (hall ⟨2, .data⟩ (by simp) rfl)
          have g29 : act.tmps[29]?.getD undef = .float .f32 q := hI.has 3 29 rfl (hall ⟨3, .data⟩ (by simp) rfl)
          clear hI hall hnot hcl
          refine .inl ⟨wanted_none rfl, ?_⟩
          unfold Oper.wp
          go_simp
          refine (HCA.out w3 (HP.out.1.turnW B1.out hC.1 (by omega))).mono ?_
          rintro e w4 ⟨cp, bk, xs, rfl, ho, hlo, hcx, b4⟩
          have hz := hC.1.1
          exact ⟨_, rfl, Turn.of_below b4 _, ⟨cp, bk, xs, rfl, ho, by omega, by rw [hcx, HXE.out]; exact CL.rfl' _⟩, StC.step (k := 4) hC b4 hFin (by decide) (by rw [hlen]; decide), AP.new hA b4.size hlo ho.1⟩
        · simp at hq; subst hq
          have g4 : act.tmps[4]?.getD undef = .pointer (some ⟨w.heap.size, 0, none⟩) := hI.kept 4 (by kernel_rfl)
          have hA2 := fun v => AP.other (k := 31) hA (by decide) v
          clear hI hall hnot hcl
          refine .inl ⟨wanted_none rfl, ?_⟩
          unfold Oper.wp
          go_simp
          all_goals exact ⟨_, rfl, Turn.refl _ _, rfl, StC.step (k := 5) hC (Below.refl _ _) hFin (by decide) (by rw [hlen]; decide), hA2 _⟩
        · simp at hq; subst hq
          have g31 : act.tmps[31]?.getD undef = .pointer (some ⟨w.heap.size, 1, none⟩) := hI.has 5 31 rfl (hall ⟨5, .data⟩ (by simp) rfl)
          have hA2 := fun v => AP.other (k := 32) hA (by decide) v
          clear hI hall hnot hcl
          refine .inl ⟨wanted_none rfl, ?_⟩
          unfold Oper.wp
          go_simp
          all_goals exact ⟨_, rfl, Turn.refl _ _, rfl, StC.step (k := 6) hC (Below.refl _ _) hFin (by decide) (by rw [hlen]; decide), hA2 _⟩
        · simp at hq; subst hq
          have g10 : act.tmps[10]?.getD undef = .int .i64 a.length := hI.kept 10 (by kernel_rfl)
          have hA2 := fun v => AP.other (k := 33) hA (by decide) v
          clear hI hall hnot hcl
          refine .inl ⟨wanted_none rfl, ?_⟩
          unfold Oper.wp
          go_simp
          all_goals exact ⟨_, rfl, Turn.refl _ _, rfl, StC.step (k := 7) hC (Below.refl _ _) hFin (by decide) (by rw [hlen]; decide), hA2 _⟩
        · simp at hq; subst hq
          have g2 : act.tmps[2]?.getD undef = .float .f32 u := hI.kept 2 (by kernel_rfl)
          have hA2 := fun v => AP.other (k := 34) hA (by decide) v
          clear hI hall hnot hcl
          refine .inl ⟨wanted_none rfl, ?_⟩
          unfold Oper.wp
          go_simp
          all_goals exact ⟨_, rfl, Turn.refl _ _, rfl, StC.step (k := 8) hC (Below.refl _ _) hFin (by decide) (by rw [hlen]; decide), hA2 _⟩
        · simp at hq; subst hq
          have g32 : act.tmps[32]?.getD undef = .slice L l.length cl := hI.has 6 32 rfl (hall ⟨6, .data⟩ (by simp) rfl)
          have g33 : act.tmps[33]?.getD undef = .int .i64 a.length := hI.has 7 33 rfl (hall ⟨7, .data⟩ (by simp) rfl)
          have g34 : act.tmps[34]?.getD undef = .float .f32 u := hI.has 8 34 rfl (hall ⟨8, .data⟩ (by simp) rfl)
          clear hI hall hnot hcl
          refine .inl ⟨wanted_none rfl, ?_⟩
          unfold Oper.wp
          go_simp
          refine (HCL.out w3 (HP.out.2.1.turnW B1.out hC.1 (by omega))).mono ?_
          rintro e w4 ⟨cp, bk, xs, rfl, ho, hlo, hcx, b4⟩
          have hz := hC.1.1
          exact ⟨_, rfl, Turn.of_below b4 _, ⟨cp, bk, xs, rfl, ho, by omega, by rw [hcx, HYE.out]; exact CL.rfl' _⟩, StC.step (k := 9) hC b4 hFin (by decide) (by rw [hlen]; decide), AP.new hA b4.size hlo ho.1⟩
        · simp at hq; subst hq
          have g4 : act.tmps[4]?.getD undef = .pointer (some ⟨w.heap.size, 0, none⟩) := hI.kept 4 (by kernel_rfl)
          have hA2 := fun v => AP.other (k := 36) hA (by decide) v
          clear hI hall hnot hcl
          refine .inl ⟨wanted_none rfl, ?_⟩
          unfold Oper.wp
          go_simp
          all_goals exact ⟨_, rfl, Turn.refl _ _, rfl, StC.step (k := 10) hC (Below.refl _ _) hFin (by decide) (by rw [hlen]; decide), hA2 _⟩
        · simp at hq; subst hq
          have g36 : act.tmps[36]?.getD undef = .pointer (some ⟨w.heap.size, 2, none⟩) := hI.has 10 36 rfl (hall ⟨10, .data⟩ (by simp) rfl)
          have hA2 := fun v => AP.other (k := 37) hA (by decide) v
          clear hI hall hnot hcl
          refine .inl ⟨wanted_none rfl, ?_⟩
          unfold Oper.wp
          go_simp
          all_goals exact ⟨_, rfl, Turn.refl _ _, rfl, StC.step (k := 11) hC (Below.refl _ _) hFin (by decide) (by rw [hlen]; decide), hA2 _⟩
        · simp at hq; subst hq
          have g10 : act.tmps[10]?.getD undef = .int .i64 a.length := hI.kept 10 (by kernel_rfl)
          have hA2 := fun v => AP.other (k := 38) hA (by decide) v
          clear hI hall hnot hcl
          refine .inl ⟨wanted_none rfl, ?_⟩
          unfold Oper.wp
          go_simp
          all_goals exact ⟨_, rfl, Turn.refl _ _, rfl, StC.step (k := 12) hC (Below.refl _ _) hFin (by decide) (by rw [hlen]; decide), hA2 _⟩
        · simp at hq; subst hq
          have g3 : act.tmps[3]?.getD undef = .float .f32 vv := hI.kept 3 (by kernel_rfl)
          have hA2 := fun v => AP.other (k := 39) hA (by decide) v
          clear hI hall hnot hcl
          refine .inl ⟨wanted_none rfl, ?_⟩
          unfold Oper.wp
          go_simp
          all_goals exact ⟨_, rfl, Turn.refl _ _, rfl, StC.step (k := 13) hC (Below.refl _ _) hFin (by decide) (by rw [hlen]; decide), hA2 _⟩
        · simp at hq; subst hq
          have g37 : act.tmps[37]?.getD undef = .slice D d.length cd := hI.has 11 37 rfl (hall ⟨11, .data⟩ (by simp) rfl)
          have g38 : act.tmps[38]?.getD undef = .int .i64 a.length := hI.has 12 38 rfl (hall ⟨12, .data⟩ (by simp) rfl)
          have g39 : act.tmps[39]?.getD undef = .float .f32 vv := hI.has 13 39 rfl (hall ⟨13, .data⟩ (by simp) rfl)
          clear hI hall hnot hcl
          refine .inl ⟨wanted_none rfl, ?_⟩
          unfold Oper.wp
          go_simp
          refine (HCD.out w3 (HP.out.2.2.turnW B1.out hC.1 (by omega))).mono ?_
          rintro e w4 ⟨cp, bk, xs, rfl, ho, hlo, hcx, b4⟩
          have hz := hC.1.1
          exact ⟨_, rfl, Turn.of_below b4 _, ⟨cp, bk, xs, rfl, ho, by omega, by rw [hcx, HZE.out]; exact CL.rfl' _⟩, StC.step (k := 14) hC b4 hFin (by decide) (by rw [hlen]; decide), AP.new hA b4.size hlo ho.1⟩
        · simp at hq; subst hq
          obtain ⟨cp4, bk4, xs4, g30, h4a, h4b, h4c⟩ := hI.has 4 30 rfl (hall ⟨4, .data⟩ (by simp) rfl)
          obtain ⟨cp9, bk9, xs9, g35, h9a, h9b, h9c⟩ := hI.has 9 35 rfl (hall ⟨9, .data⟩ (by simp) rfl)
          obtain ⟨cp14, bk14, xs14, g40, h14a, h14b, h14c⟩ := hI.has 14 40 rfl (hall ⟨14, .data⟩ (by simp) rfl)
          have hA2 := fun v => AP.other (k := 41) hA (by decide) v
          clear hI hall hnot hcl
          refine .inl ⟨wanted_none rfl, ?_⟩
          unfold Oper.wp
          go_simp
          have e12 := (hA.2 30 (by decide) 35 (by decide) (by decide) _ _ _ _ _ _ _ _ (by rw [Array.getD_eq_getD_getElem?]; exact g30) (by rw [Array.getD_eq_getD_getElem?]; exact g35))
          have e13 := (hA.2 30 (by decide) 40 (by decide) (by decide) _ _ _ _ _ _ _ _ (by rw [Array.getD_eq_getD_getElem?]; exact g30) (by rw [Array.getD_eq_getD_getElem?]; exact g40))
          have e23 := (hA.2 35 (by decide) 40 (by decide) (by decide) _ _ _ _ _ _ _ _ (by rw [Array.getD_eq_getD_getElem?]; exact g35) (by rw [Array.getD_eq_getD_getElem?]; exact g40))
          exact ⟨_, rfl, Turn.refl _ _, ⟨cp4, bk4, xs4, cp9, bk9, xs9, cp14, bk14, xs14, rfl, ⟨Own.o h4a h4b, Own.o h9a h9b, Own.o h14a h14b, e12, e13, e23⟩, h4c, h9c, h14c⟩, StC.step (k := 15) hC (Below.refl _ _) hFin (by decide) (by rw [hlen]; decide), hA2 _⟩
        · simp at hq; subst hq
          obtain ⟨da15, ka15, xa15, db15, kb15, xb15, dc15, kc15, xc15, g41, h15a, h15b⟩ := hI.has 15 41 rfl (hall ⟨15, .data⟩ (by simp) rfl)
          have hA2 := fun v => AP.other (k := 42) hA (by decide) v
          clear hI hall hnot hcl
          refine .inl ⟨wanted_none rfl, ?_⟩
          unfold Oper.wp
          go_simp
          refine (i_GiveQ _ _ _ _ _ _ _ _ _ w1.heap.size xa15 xb15 xc15 X Y Z O w3 h15a h15b.1 h15b.2.1 h15b.2.2 HO.out (by have h1 := h15b.1.1; have h2 := h15b.2.1.1; have h3 := h15b.2.2.1; have h4 := HLEN.out; unfold Few; omega)).mono ?_
          rintro e w4 ⟨Ra, Rb, Rc, da, db, dc, ka, kb, kc, rfl, ho, b4⟩
          exact ⟨_, rfl, Turn.of_below b4 _, PGiv.mk' ho, StC.step (k := 16) hC b4 hFin (by decide) (by rw [hlen]; decide), (hA2 _).grow b4.size⟩
        · simp at hq; subst hq
          obtain ⟨Ra16, Rb16, Rc16, da16, db16, dc16, ka16, kb16, kc16, g42, h16a⟩ := hI.has 16 42 rfl (hall ⟨16, .data⟩ (by simp) rfl)
          have hA2 := fun v => AP.other (k := 43) hA (by decide) v
          clear hI hall hnot hcl
          refine .inl ⟨wanted_none rfl, ?_⟩
          unfold Oper.wp
          go_simp
          exact ⟨_, rfl, Turn.refl _ _, PAgg.mk' h16a, StC.step (k := 17) hC (Below.refl _ _) hFin (by decide) (by rw [hlen]; decide), hA2 _⟩
        · simp at hq; subst hq
          obtain ⟨Ra16, Rb16, Rc16, da16, db16, dc16, ka16, kb16, kc16, g42, h16a⟩ := hI.has 16 42 rfl (hall ⟨16, .data⟩ (by simp) rfl)
          have hA2 := fun v => AP.other (k := 44) hA (by decide) v
          clear hI hall hnot hcl
          refine .inl ⟨wanted_none rfl, ?_⟩
          unfold Oper.wp
          go_simp
          all_goals exact ⟨_, rfl, Turn.refl _ _, rfl, StC.step (k := 18) hC (Below.refl _ _) hFin (by decide) (by rw [hlen]; decide), hA2 _⟩
        · simp at hq; subst hq
          have g8 : act.tmps[8]?.getD undef = .pointer (some ⟨(w.heap.size + 2), 0, none⟩) := hI.kept 8 (by kernel_rfl)
          obtain ⟨Ra17, Rb17, Rc17, da17, db17, dc17, ka17, kb17, kc17, g43, h17a⟩ := hI.has 17 43 rfl (hall ⟨17, .data⟩ (by simp) rfl)
          have hA2 := fun v => AP.skip hA v
          clear hI hall hnot hcl
          refine .inl ⟨wanted_none rfl, ?_⟩
          unfold Oper.wp
          go_simp
          obtain ⟨vs, hvs, hvl⟩ := hC.2.1
          match vs, hvs, hvl with
          | [a0, a1, a2], hvs, _ =>
          have p0 := (hvs.2 0 _ rfl).1
          have q0 := (hvs.2 0 _ rfl).2
          have p1 := (hvs.2 1 _ rfl).1
          have q1 := (hvs.2 1 _ rfl).2
          have p2 := (hvs.2 2 _ rfl).1
          have q2 := (hvs.2 2 _ rfl).2
          go_simp
          have hf := (((hvs.set (i := 0) (by simp) (.slice Ra17 (gLp O X).length da17)).set (i := 1) (by simp) (.slice Rb17 (gLp O Y).length db17)).set (i := 2) (by simp) (.slice Rc17 (gLp O Z).length dc17))
          have ht := (((Turn.set w3 (B := (w.heap.size + 2)) ⟨(w.heap.size + 2), 0, none⟩ rfl (.slice Ra17 (gLp O X).length da17)).trans (Turn.set _ (B := (w.heap.size + 2)) ⟨(w.heap.size + 2), 1, none⟩ rfl (.slice Rb17 (gLp O Y).length db17))).trans (Turn.set _ (B := (w.heap.size + 2)) ⟨(w.heap.size + 2), 2, none⟩ rfl (.slice Rc17 (gLp O Z).length dc17)))
          have hn := (((h17a.setC (p := ⟨(w.heap.size + 2), 0, none⟩) (by show (w.heap.size + 2) < _; omega) (.slice Ra17 (gLp O X).length da17)).setC (p := ⟨(w.heap.size + 2), 1, none⟩) (by show (w.heap.size + 2) < _; omega) (.slice Rb17 (gLp O Y).length db17)).setC (p := ⟨(w.heap.size + 2), 2, none⟩) (by show (w.heap.size + 2) < _; omega) (.slice Rc17 (gLp O Z).length dc17))
          have hst := StC.store (st := 19) hC ht hf rfl ⟨Ra17, Rb17, Rc17, da17, db17, dc17, ka17, kb17, kc17, hf, hn⟩
          have hap := (hA2 undef).grow ht.1
          first | exact ⟨ht, trivial, hst, hap⟩ | exact ⟨ht, hst, hap⟩
        · simp at hq; subst hq
          have g44 : act.tmps[44]?.getD undef = .bool O := hI.has 18 44 rfl (hall ⟨18, .data⟩ (by simp) rfl)
          have hA2 := fun v => AP.other (k := 9) hA (by decide) v
          clear hI hall hnot hcl
          refine .inl ⟨wanted_none rfl, ?_⟩
          unfold Oper.wp
          go_simp
          all_goals exact ⟨_, rfl, Turn.refl _ _, rfl, StC.step (k := 20) hC (Below.refl _ _) hFin (by decide) (by rw [hlen]; decide), hA2 _⟩
        · simp at hq
      case hend =>
        intro listed act w3 hI hCA hall
        obtain ⟨hC, hA⟩ := hCA
        have hlen : listed.size = 21 := hI.len
        obtain ⟨kx0, kx1, kx2⟩ := (L0.out.turnS hC.1 (by intro e; omega)).three
        have ki := (LI.out.turnS hC.1 (by intro e; omega)).oneP
        obtain ⟨Ra, Rb, Rc, da, db, dc, ka, kb, kc, hf, hown⟩ := hC.2.2 (hall 19 (by decide))
        have ht := hC.1
        have g8 : act.tmps[8]?.getD undef = .pointer (some ⟨(w.heap.size + 2), 0, none⟩) := hI.kept 8 (by kernel_rfl)
        have g9 : act.tmps[9]?.getD undef = .bool O := hI.has 20 9 rfl (hall 20 (by decide))
        have hd := hI.defers
        clear hI hall hFin hC hA
        have c0 := (hf.2 0 _ rfl).1
        have c1 := (hf.2 1 _ rfl).1
        have c2 := (hf.2 2 _ rfl).1
        go_wp2
        refine bodyPost_ret (v := .tuple #[.agg #[.slice Ra (gLp O X).length da, .slice Rb (gLp O Y).length db, .slice Rc (gLp O Z).length dc], .bool O]) (by simp [results, Try.results23, g8, g9, c0, c1, c2, go_sem]) (by first | rfl | exact hd) ?_
        have hbw := ht.2.2.2 w B1.out (fun b hb => by have hb : b = (w.heap.size + 2) := hb; omega)
        first | exact ⟨Ra, Rb, Rc, da, db, dc, ka, kb, kc, rfl, hown.base B1.out.size, hbw⟩ | exact ⟨Ra, Rb, Rc, ⟨da, db, dc, rfl⟩, ⟨ka, kb, kc, hown.base B1.out.size⟩, hbw⟩
    · have hI0 : (0 : Int) ≤ (I : Int) := by omega
      go_wp2_with fail
      clear ki kx
      have hFin := PFin.below ((w.heap.size + 2)) w1.heap.size O X Y Z
      refine wp_region_inv7 (fun iq wv v => match iq with
        | 0 => v = .pointer (some ⟨w.heap.size, 0, none⟩)
        | 1 => v = .slice A a.length ca
        | 2 => v = .int .i64 I
        | 3 => v = .float .f32 q
        | 4 => ∃ cp bk xs, v = .slice (some ⟨bk, 0, none⟩) xs.length cp ∧ Own wv bk xs ∧ w1.heap.size ≤ bk ∧ CL xs X
        | 5 => v = .pointer (some ⟨w.heap.size, 1, none⟩)
        | 6 => v = .slice L l.length cl
        | 7 => v = .int .i64 I
        | 8 => v = .float .f32 u
        | 9 => ∃ cp bk xs, v = .slice (some ⟨bk, 0, none⟩) xs.length cp ∧ Own wv bk xs ∧ w1.heap.size ≤ bk ∧ CL xs Y
        | 10 => v = .pointer (some ⟨w.heap.size, 2, none⟩)
        | 11 => v = .slice D d.length cd
        | 12 => v = .int .i64 I
        | 13 => v = .float .f32 vv
        | 14 => ∃ cp bk xs, v = .slice (some ⟨bk, 0, none⟩) xs.length cp ∧ Own wv bk xs ∧ w1.heap.size ≤ bk ∧ CL xs Z
        | 15 => ∃ da ka xa db kb xb dc kc xc, v = .agg #[.slice (some ⟨ka, 0, none⟩) xa.length da, .slice (some ⟨kb, 0, none⟩) xb.length db, .slice (some ⟨kc, 0, none⟩) xc.length dc] ∧ OwnQ wv w1.heap.size (some ⟨ka, 0, none⟩) (some ⟨kb, 0, none⟩) (some ⟨kc, 0, none⟩) ka kb kc xa xb xc ∧ (CL xa X ∧ CL xb Y ∧ CL xc Z)
        | 16 => PGiv w1.heap.size O X Y Z wv v
        | 17 => PAgg w1.heap.size O X Y Z wv v
        | 18 => v = .bool O
        | 19 => True
        | 20 => v = .bool O
        | _ => False) (fun listed aa ww => StC w1 ((w.heap.size + 2)) 3 19 (PFin ((w.heap.size + 2)) w1.heap.size O X Y Z) listed ww ∧ AP [30, 35, 40] aa ww) (fun wa wb => Turn wa wb (fun b => b = (w.heap.size + 2))) ?hmono (by kernel_rfl) (by kernel_rfl) ⟨StC.start LR.out rfl, AP.start (by rfl)⟩ ?hop ?hend
      case hmono =>
        intro i wa wb v hR hV
        rcases i with _ | _ | _ | _ | _ | _ | _ | _ | _ | _ | _ | _ | _ | _ | _ | _ | _ | _ | _ | _ | _ | i
        · exact hV
        · exact hV
        · exact hV
        · exact hV
        · obtain ⟨cp, bk, xs, rfl, ho, hb, hr⟩ := hV; exact ⟨cp, bk, xs, rfl, ho.turn hR (by show ¬ bk = _; omega), hb, hr⟩
        · exact hV
        · exact hV
        · exact hV
        · exact hV
        · obtain ⟨cp, bk, xs, rfl, ho, hb, hr⟩ := hV; exact ⟨cp, bk, xs, rfl, ho.turn hR (by show ¬ bk = _; omega), hb, hr⟩
        · exact hV
        · exact hV
        · exact hV
        · exact hV
        · obtain ⟨cp, bk, xs, rfl, ho, hb, hr⟩ := hV; exact ⟨cp, bk, xs, rfl, ho.turn hR (by show ¬ bk = _; omega), hb, hr⟩
        · obtain ⟨da, ka, xa, db, kb, xb, dc, kc, xc, rfl, ho, hr⟩ := hV; exact ⟨da, ka, xa, db, kb, xb, dc, kc, xc, rfl, OwnQ.turn' ho hR (fun b h1 _ hb => by have hb : b = _ := hb; omega), hr⟩
        · exact hV.turn hR (by omega)
        · exact hV.turn hR (by omega)
        · exact hV
        · exact hV
        · exact hV
        · exact hV
      case hop =>
        intro q o hq listed act w3 hI hCA hnot hcl hall
        obtain ⟨hC, hA⟩ := hCA
        have hlen : listed.size = 21 := hI.len
        obtain ⟨kx0, kx1, kx2⟩ := (L0.out.turnS hC.1 (by intro e; omega)).three
        have ki := (LI.out.turnS hC.1 (by intro e; omega)).oneP
        rcases q with _ | _ | _ | _ | _ | _ | _ | _ | _ | _ | _ | _ | _ | _ | _ | _ | _ | _ | _ | _ | _ | q
        · simp at hq; subst hq
          have g4 : act.tmps[4]?.getD undef = .pointer (some ⟨w.heap.size, 0, none⟩) := hI.kept 4 (by kernel_rfl)
          have hA2 := fun v => AP.other (k := 26) hA (by decide) v
          clear hI hall hnot hcl
          refine .inl ⟨wanted_none rfl, ?_⟩
          unfold Oper.wp
          go_simp
          all_goals exact ⟨_, rfl, Turn.refl _ _, rfl, StC.step (k := 0) hC (Below.refl _ _) hFin (by decide) (by rw [hlen]; decide), hA2 _⟩
        · simp at hq; subst hq
          have g26 : act.tmps[26]?.getD undef = .pointer (some ⟨w.heap.size, 0, none⟩) := hI.has 0 26 rfl (hall ⟨0, .data⟩ (by simp) rfl)
          have hA2 := fun v => AP.other (k := 27) hA (by decide) v
          clear hI hall hnot hcl
          refine .inl ⟨wanted_none rfl, ?_⟩
          unfold Oper.wp
          go_simp
          all_goals exact ⟨_, rfl, Turn.refl _ _, rfl, StC.step (k := 1) hC (Below.refl _ _) hFin (by decide) (by rw [hlen]; decide), hA2 _⟩
        · simp at hq; subst hq
          have g10 : act.tmps[10]?.getD undef = .int .i64 I := hI.kept 10 (by kernel_rfl)
          have hA2 := fun v => AP.other (k := 28) hA (by decide) v
          clear hI hall hnot hcl
          refine .inl ⟨wanted_none rfl, ?_⟩
          unfold Oper.wp
          go_simp
          all_goals exact ⟨_, rfl, Turn.refl _ _, rfl, StC.step (k := 2) hC (Below.refl _ _) hFin (by decide) (by rw [hlen]; decide), hA2 _⟩
        · simp at hq; subst hq
          have g5 : act.tmps[5]?.getD undef = .pointer (some ⟨(w.heap.size + 1), 0, none⟩) := hI.kept 5 (by kernel_rfl)
          have hA2 := fun v => AP.other (k := 29) hA (by decide) v
          clear hI hall hnot hcl
          refine .inl ⟨wanted_none rfl, ?_⟩
          unfold Oper.wp
          go_simp
          all_goals exact ⟨_, rfl, Turn.refl _ _, rfl, StC.step (k := 3) hC (Below.refl _ _) hFin (by decide) (by rw [hlen]; decide), hA2 _⟩
        · simp at hq; subst hq
          have g27 : act.tmps[27]?.getD undef = .slice A a.length ca := hI.has 1 27 rfl (hall ⟨1, .data⟩ (by simp) rfl)
          have g28 : act.tmps[28]?.getD undef = .int .i64 I := hI.has 2 28 rfl (hall ⟨2, .data⟩ (by simp) rfl)
          have g29 : act.tmps[29]?.getD undef = .float .f32 q := hI.has 3 29 rfl (hall ⟨3, .data⟩ (by simp) rfl)
          clear hI hall hnot hcl
          refine .inl ⟨wanted_none rfl, ?_⟩
          unfold Oper.wp
          go_simp
          refine (HCA.out w3 (HP.out.1.turnW B1.out hC.1 (by omega))).mono ?_
          rintro e w4 ⟨cp, bk, xs, rfl, ho, hlo, hcx, b4⟩
          have hz := hC.1.1
          exact ⟨_, rfl, Turn.of_below b4 _, ⟨cp, bk, xs, rfl, ho, by omega, by rw [hcx, HXE.out]; exact CL.rfl' _⟩, StC.step (k := 4) hC b4 hFin (by decide) (by rw [hlen]; decide), AP.new hA b4.size hlo ho.1⟩
        · simp at hq; subst hq
          have g4 : act.tmps[4]?.getD undef = .pointer (some ⟨w.heap.size, 0, none⟩) := hI.kept 4 (by kernel_rfl)
          have hA2 := fun v => AP.other (k := 31) hA (by decide) v
          clear hI hall hnot hcl
          refine .inl ⟨wanted_none rfl, ?_⟩
          unfold Oper.wp
          go_simp
          all_goals exact ⟨_, rfl, Turn.refl _ _, rfl, StC.step (k := 5) hC (Below.refl _ _) hFin (by decide) (by rw [hlen]; decide), hA2 _⟩
        · simp at hq; subst hq
          have g31 : act.tmps[31]?.getD undef = .pointer (some ⟨w.heap.size, 1, none⟩) := hI.has 5 31 rfl (hall ⟨5, .data⟩ (by simp) rfl)
          have hA2 := fun v => AP.other (k := 32) hA (by decide) v
          clear hI hall hnot hcl
          refine .inl ⟨wanted_none rfl, ?_⟩
          unfold Oper.wp
          go_simp
          all_goals exact ⟨_, rfl, Turn.refl _ _, rfl, StC.step (k := 6) hC (Below.refl _ _) hFin (by decide) (by rw [hlen]; decide), hA2 _⟩
        · simp at hq; subst hq
          have g10 : act.tmps[10]?.getD undef = .int .i64 I := hI.kept 10 (by kernel_rfl)
          have hA2 := fun v => AP.other (k := 33) hA (by decide) v
          clear hI hall hnot hcl
          refine .inl ⟨wanted_none rfl, ?_⟩
          unfold Oper.wp
          go_simp
          all_goals exact ⟨_, rfl, Turn.refl _ _, rfl, StC.step (k := 7) hC (Below.refl _ _) hFin (by decide) (by rw [hlen]; decide), hA2 _⟩
        · simp at hq; subst hq
          have g2 : act.tmps[2]?.getD undef = .float .f32 u := hI.kept 2 (by kernel_rfl)
          have hA2 := fun v => AP.other (k := 34) hA (by decide) v
          clear hI hall hnot hcl
          refine .inl ⟨wanted_none rfl, ?_⟩
          unfold Oper.wp
          go_simp
          all_goals exact ⟨_, rfl, Turn.refl _ _, rfl, StC.step (k := 8) hC (Below.refl _ _) hFin (by decide) (by rw [hlen]; decide), hA2 _⟩
        · simp at hq; subst hq
          have g32 : act.tmps[32]?.getD undef = .slice L l.length cl := hI.has 6 32 rfl (hall ⟨6, .data⟩ (by simp) rfl)
          have g33 : act.tmps[33]?.getD undef = .int .i64 I := hI.has 7 33 rfl (hall ⟨7, .data⟩ (by simp) rfl)
          have g34 : act.tmps[34]?.getD undef = .float .f32 u := hI.has 8 34 rfl (hall ⟨8, .data⟩ (by simp) rfl)
          clear hI hall hnot hcl
          refine .inl ⟨wanted_none rfl, ?_⟩
          unfold Oper.wp
          go_simp
          refine (HCL.out w3 (HP.out.2.1.turnW B1.out hC.1 (by omega))).mono ?_
          rintro e w4 ⟨cp, bk, xs, rfl, ho, hlo, hcx, b4⟩
          have hz := hC.1.1
          exact ⟨_, rfl, Turn.of_below b4 _, ⟨cp, bk, xs, rfl, ho, by omega, by rw [hcx, HYE.out]; exact CL.rfl' _⟩, StC.step (k := 9) hC b4 hFin (by decide) (by rw [hlen]; decide), AP.new hA b4.size hlo ho.1⟩
        · simp at hq; subst hq
          have g4 : act.tmps[4]?.getD undef = .pointer (some ⟨w.heap.size, 0, none⟩) := hI.kept 4 (by kernel_rfl)
          have hA2 := fun v => AP.other (k := 36) hA (by decide) v
          clear hI hall hnot hcl
          refine .inl ⟨wanted_none rfl, ?_⟩
          unfold Oper.wp
          go_simp
          all_goals exact ⟨_, rfl, Turn.refl _ _, rfl, StC.step (k := 10) hC (Below.refl _ _) hFin (by decide) (by rw [hlen]; decide), hA2 _⟩
        · simp at hq; subst hq
          have g36 : act.tmps[36]?.getD undef = .pointer (some ⟨w.heap.size, 2, none⟩) := hI.has 10 36 rfl (hall ⟨10, .data⟩ (by simp) rfl)
          have hA2 := fun v => AP.other (k := 37) hA (by decide) v
          clear hI hall hnot hcl
          refine .inl ⟨wanted_none rfl, ?_⟩
          unfold Oper.wp
          go_simp
          all_goals exact ⟨_, rfl, Turn.refl _ _, rfl, StC.step (k := 11) hC (Below.refl _ _) hFin (by decide) (by rw [hlen]; decide), hA2 _⟩
        · simp at hq; subst hq
          have g10 : act.tmps[10]?.getD undef = .int .i64 I := hI.kept 10 (by kernel_rfl)
          have hA2 := fun v => AP.other (k := 38) hA (by decide) v
          clear hI hall hnot hcl
          refine .inl ⟨wanted_none rfl, ?_⟩
          unfold Oper.wp
          go_simp
          all_goals exact ⟨_, rfl, Turn.refl _ _, rfl, StC.step (k := 12) hC (Below.refl _ _) hFin (by decide) (by rw [hlen]; decide), hA2 _⟩
        · simp at hq; subst hq
          have g3 : act.tmps[3]?.getD undef = .float .f32 vv := hI.kept 3 (by kernel_rfl)
          have hA2 := fun v => AP.other (k := 39) hA (by decide) v
          clear hI hall hnot hcl
          refine .inl ⟨wanted_none rfl, ?_⟩
          unfold Oper.wp
          go_simp
          all_goals exact ⟨_, rfl, Turn.refl _ _, rfl, StC.step (k := 13) hC (Below.refl _ _) hFin (by decide) (by rw [hlen]; decide), hA2 _⟩
        · simp at hq; subst hq
          have g37 : act.tmps[37]?.getD undef = .slice D d.length cd := hI.has 11 37 rfl (hall ⟨11, .data⟩ (by simp) rfl)
          have g38 : act.tmps[38]?.getD undef = .int .i64 I := hI.has 12 38 rfl (hall ⟨12, .data⟩ (by simp) rfl)
          have g39 : act.tmps[39]?.getD undef = .float .f32 vv := hI.has 13 39 rfl (hall ⟨13, .data⟩ (by simp) rfl)
          clear hI hall hnot hcl
          refine .inl ⟨wanted_none rfl, ?_⟩
          unfold Oper.wp
          go_simp
          refine (HCD.out w3 (HP.out.2.2.turnW B1.out hC.1 (by omega))).mono ?_
          rintro e w4 ⟨cp, bk, xs, rfl, ho, hlo, hcx, b4⟩
          have hz := hC.1.1
          exact ⟨_, rfl, Turn.of_below b4 _, ⟨cp, bk, xs, rfl, ho, by omega, by rw [hcx, HZE.out]; exact CL.rfl' _⟩, StC.step (k := 14) hC b4 hFin (by decide) (by rw [hlen]; decide), AP.new hA b4.size hlo ho.1⟩
        · simp at hq; subst hq
          obtain ⟨cp4, bk4, xs4, g30, h4a, h4b, h4c⟩ := hI.has 4 30 rfl (hall ⟨4, .data⟩ (by simp) rfl)
          obtain ⟨cp9, bk9, xs9, g35, h9a, h9b, h9c⟩ := hI.has 9 35 rfl (hall ⟨9, .data⟩ (by simp) rfl)
          obtain ⟨cp14, bk14, xs14, g40, h14a, h14b, h14c⟩ := hI.has 14 40 rfl (hall ⟨14, .data⟩ (by simp) rfl)
          have hA2 := fun v => AP.other (k := 41) hA (by decide) v
          clear hI hall hnot hcl
          refine .inl ⟨wanted_none rfl, ?_⟩
          unfold Oper.wp
          go_simp
          have e12 := (hA.2 30 (by decide) 35 (by decide) (by decide) _ _ _ _ _ _ _ _ (by rw [Array.getD_eq_getD_getElem?]; exact g30) (by rw [Array.getD_eq_getD_getElem?]; exact g35))
          have e13 := (hA.2 30 (by decide) 40 (by decide) (by decide) _ _ _ _ _ _ _ _ (by rw [Array.getD_eq_getD_getElem?]; exact g30) (by rw [Array.getD_eq_getD_getElem?]; exact g40))
          have e23 := (hA.2 35 (by decide) 40 (by decide) (by decide) _ _ _ _ _ _ _ _ (by rw [Array.getD_eq_getD_getElem?]; exact g35) (by rw [Array.getD_eq_getD_getElem?]; exact g40))
          exact ⟨_, rfl, Turn.refl _ _, ⟨cp4, bk4, xs4, cp9, bk9, xs9, cp14, bk14, xs14, rfl, ⟨Own.o h4a h4b, Own.o h9a h9b, Own.o h14a h14b, e12, e13, e23⟩, h4c, h9c, h14c⟩, StC.step (k := 15) hC (Below.refl _ _) hFin (by decide) (by rw [hlen]; decide), hA2 _⟩
        · simp at hq; subst hq
          obtain ⟨da15, ka15, xa15, db15, kb15, xb15, dc15, kc15, xc15, g41, h15a, h15b⟩ := hI.has 15 41 rfl (hall ⟨15, .data⟩ (by simp) rfl)
          have hA2 := fun v => AP.other (k := 42) hA (by decide) v
          clear hI hall hnot hcl
          refine .inl ⟨wanted_none rfl, ?_⟩
          unfold Oper.wp
          go_simp
          refine (i_GiveQ _ _ _ _ _ _ _ _ _ w1.heap.size xa15 xb15 xc15 X Y Z O w3 h15a h15b.1 h15b.2.1 h15b.2.2 HO.out (by have h1 := h15b.1.1; have h2 := h15b.2.1.1; have h3 := h15b.2.2.1; have h4 := HLEN.out; unfold Few; omega)).mono ?_
          rintro e w4 ⟨Ra, Rb, Rc, da, db, dc, ka, kb, kc, rfl, ho, b4⟩
          exact ⟨_, rfl, Turn.of_below b4 _, PGiv.mk' ho, StC.step (k := 16) hC b4 hFin (by decide) (by rw [hlen]; decide), (hA2 _).grow b4.size⟩
        · simp at hq; subst hq
          obtain ⟨Ra16, Rb16, Rc16, da16, db16, dc16, ka16, kb16, kc16, g42, h16a⟩ := hI.has 16 42 rfl (hall ⟨16, .data⟩ (by simp) rfl)
          have hA2 := fun v => AP.other (k := 43) hA (by decide) v
          clear hI hall hnot hcl
          refine .inl ⟨wanted_none rfl, ?_⟩
          unfold Oper.wp
          go_simp
          exact ⟨_, rfl, Turn.refl _ _, PAgg.mk' h16a, StC.step (k := 17) hC (Below.refl _ _) hFin (by decide) (by rw [hlen]; decide), hA2 _⟩
        · simp at hq; subst hq
          obtain ⟨Ra16, Rb16, Rc16, da16, db16, dc16, ka16, kb16, kc16, g42, h16a⟩ := hI.has 16 42 rfl (hall ⟨16, .data⟩ (by simp) rfl)
          have hA2 := fun v => AP.other (k := 44) hA (by decide) v
          clear hI hall hnot hcl
          refine .inl ⟨wanted_none rfl, ?_⟩
          unfold Oper.wp
          go_simp
          all_goals exact ⟨_, rfl, Turn.refl _ _, rfl, StC.step (k := 18) hC (Below.refl _ _) hFin (by decide) (by rw [hlen]; decide), hA2 _⟩
        · simp at hq; subst hq
          have g8 : act.tmps[8]?.getD undef = .pointer (some ⟨(w.heap.size + 2), 0, none⟩) := hI.kept 8 (by kernel_rfl)
          obtain ⟨Ra17, Rb17, Rc17, da17, db17, dc17, ka17, kb17, kc17, g43, h17a⟩ := hI.has 17 43 rfl (hall ⟨17, .data⟩ (by simp) rfl)
          have hA2 := fun v => AP.skip hA v
          clear hI hall hnot hcl
          refine .inl ⟨wanted_none rfl, ?_⟩
          unfold Oper.wp
          go_simp
          obtain ⟨vs, hvs, hvl⟩ := hC.2.1
          match vs, hvs, hvl with
          | [a0, a1, a2], hvs, _ =>
          have p0 := (hvs.2 0 _ rfl).1
          have q0 := (hvs.2 0 _ rfl).2
          have p1 := (hvs.2 1 _ rfl).1
          have q1 := (hvs.2 1 _ rfl).2
          have p2 := (hvs.2 2 _ rfl).1
          have q2 := (hvs.2 2 _ rfl).2
          go_simp
          have hf := (((hvs.set (i := 0) (by simp) (.slice Ra17 (gLp O X).length da17)).set (i := 1) (by simp) (.slice Rb17 (gLp O Y).length db17)).set (i := 2) (by simp) (.slice Rc17 (gLp O Z).length dc17))
          have ht := (((Turn.set w3 (B := (w.heap.size + 2)) ⟨(w.heap.size + 2), 0, none⟩ rfl (.slice Ra17 (gLp O X).length da17)).trans (Turn.set _ (B := (w.heap.size + 2)) ⟨(w.heap.size + 2), 1, none⟩ rfl (.slice Rb17 (gLp O Y).length db17))).trans (Turn.set _ (B := (w.heap.size + 2)) ⟨(w.heap.size + 2), 2, none⟩ rfl (.slice Rc17 (gLp O Z).length dc17)))
          have hn := (((h17a.setC (p := ⟨(w.heap.size + 2), 0, none⟩) (by show (w.heap.size + 2) < _; omega) (.slice Ra17 (gLp O X).length da17)).setC (p := ⟨(w.heap.size + 2), 1, none⟩) (by show (w.heap.size + 2) < _; omega) (.slice Rb17 (gLp O Y).length db17)).setC (p := ⟨(w.heap.size + 2), 2, none⟩) (by show (w.heap.size + 2) < _; omega) (.slice Rc17 (gLp O Z).length dc17))
          have hst := StC.store (st := 19) hC ht hf rfl ⟨Ra17, Rb17, Rc17, da17, db17, dc17, ka17, kb17, kc17, hf, hn⟩
          have hap := (hA2 undef).grow ht.1
          first | exact ⟨ht, trivial, hst, hap⟩ | exact ⟨ht, hst, hap⟩
        · simp at hq; subst hq
          have g44 : act.tmps[44]?.getD undef = .bool O := hI.has 18 44 rfl (hall ⟨18, .data⟩ (by simp) rfl)
          have hA2 := fun v => AP.other (k := 9) hA (by decide) v
          clear hI hall hnot hcl
          refine .inl ⟨wanted_none rfl, ?_⟩
          unfold Oper.wp
          go_simp
          all_goals exact ⟨_, rfl, Turn.refl _ _, rfl, StC.step (k := 20) hC (Below.refl _ _) hFin (by decide) (by rw [hlen]; decide), hA2 _⟩
        · simp at hq
      case hend =>
        intro listed act w3 hI hCA hall
        obtain ⟨hC, hA⟩ := hCA
        have hlen : listed.size = 21 := hI.len
        obtain ⟨kx0, kx1, kx2⟩ := (L0.out.turnS hC.1 (by intro e; omega)).three
        have ki := (LI.out.turnS hC.1 (by intro e; omega)).oneP
        obtain ⟨Ra, Rb, Rc, da, db, dc, ka, kb, kc, hf, hown⟩ := hC.2.2 (hall 19 (by decide))
        have ht := hC.1
        have g8 : act.tmps[8]?.getD undef = .pointer (some ⟨(w.heap.size + 2), 0, none⟩) := hI.kept 8 (by kernel_rfl)
        have g9 : act.tmps[9]?.getD undef = .bool O := hI.has 20 9 rfl (hall 20 (by decide))
        have hd := hI.defers
        clear hI hall hFin hC hA
        have c0 := (hf.2 0 _ rfl).1
        have c1 := (hf.2 1 _ rfl).1
        have c2 := (hf.2 2 _ rfl).1
        go_wp2
        refine bodyPost_ret (v := .tuple #[.agg #[.slice Ra (gLp O X).length da, .slice Rb (gLp O Y).length db, .slice Rc (gLp O Z).length dc], .bool O]) (by simp [results, Try.results23, g8, g9, c0, c1, c2, go_sem]) (by first | rfl | exact hd) ?_
        have hbw := ht.2.2.2 w B1.out (fun b hb => by have hb : b = (w.heap.size + 2) := hb; omega)
        first | exact ⟨Ra, Rb, Rc, da, db, dc, ka, kb, kc, rfl, hown.base B1.out.size, hbw⟩ | exact ⟨Ra, Rb, Rc, ⟨da, db, dc, rfl⟩, ⟨ka, kb, kc, hown.base B1.out.size⟩, hbw⟩
end Go.Proofs.Ytplofbkollhjpaa
