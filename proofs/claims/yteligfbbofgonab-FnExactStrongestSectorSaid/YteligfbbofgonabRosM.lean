/- The mean of a rose: both sides. No statement is proved here. -/
import Derived.Test.YteligfbbofgonabRose
import Derived.Test.YteligfbbofgonabList
namespace Go.Proofs.Yteligfbbofgonab
open Go Go.RowKit
def prodAt (xs ys : List Nat) (k : Nat) : Nat := fop .mul .f32 (canon .f32 (xs.getD k 0)) (canon .f32 (ys.getD k 0))
def mrV (a l : List Nat) : Nat := fop .quo .f32 (dotK a l a.length) (sumK a a.length)
def mrO (a l : List Nat) : Bool := rosV a l && fin .f32 (mrV a l)
def mrR (a l : List Nat) : Nat := if rosV a l then onlyN (mrV a l) else 0
theorem sumK_dot {xs ys zs : List Nat} {n : Nat} (h : ∀ k, k < n → canon .f32 (zs.getD k 0) = prodAt xs ys k) : ∀ k, k ≤ n → sumK zs k = dotK xs ys k := by
  intro k; induction k with
  | zero => intro _; rfl
  | succ k ih => intro hk; simp only [sumK, dotK, ih (by omega), h k (by omega)]; rfl
theorem canon_sumK (xs : List Nat) : ∀ k, canon .f32 (sumK xs k) = sumK xs k := by
  intro k; cases k with
  | zero => exact canon_zero
  | succ k => exact canon_fop ..
set_option maxHeartbeats 4000000 in
theorem i_prodAt (B B' j : Nat) (A L : Option Addr) (cap cap' : Nat) (xs ys : List Nat) (w : World) (h : Fl w A xs) (h' : Fl w L ys) (hk : w.cell? ⟨B, 0, none⟩ = some (.slice A xs.length cap)) (hk' : w.cell? ⟨B', 0, none⟩ = some (.slice L ys.length cap')) (hj : j < xs.length) (hj' : j < ys.length) :
    Calls Try.prog 128 #[.int .i64 j, .pointer (some ⟨B, 0, none⟩), .pointer (some ⟨B', 0, none⟩)] w fun e w' => ∃ r, e = .returned (.float .f32 r) ∧ canon .f32 r = prodAt xs ys j ∧ ∃ n, w' = w.drewN n := by
  obtain ⟨b, off, rfl, hb, hc⟩ := h.at_ hj
  obtain ⟨b', off', rfl, hb', hc'⟩ := h'.at_ hj'
  clear h hb h' hb'
  have HX : Hid (prodAt xs ys j = fop .mul .f32 (canon .f32 (xs.getD j 0)) (canon .f32 (ys.getD j 0))) := rfl
  obtain ⟨x, hx⟩ : ∃ x, x = xs.getD j 0 := ⟨_, rfl⟩
  obtain ⟨y, hy⟩ : ∃ x, x = ys.getD j 0 := ⟨_, rfl⟩
  rw [← hx, ← hy] at HX
  rw [← hx] at hc
  rw [← hy] at hc'
  clear hx hy
  have hdd : ∀ nn j, ∃ mm, (w.drewN nn).drewN j = w.drewN mm := fun nn j => ⟨nn + j, World.drewN_drewN ..⟩
  go_enter Try.func128, Try.ntmps128
  go_wp2_with fail
  refine wp_region_inv3 (fun q0 v => match q0 with
    | 0 => v = .slice (some ⟨b, off, none⟩) xs.length cap
    | 1 => v = .int .i64 j
    | 2 => v = .pointer (some ⟨b, off + j, none⟩)
    | 3 => v = .float .f32 x
    | 4 => v = .slice (some ⟨b', off', none⟩) ys.length cap'
    | 5 => v = .int .i64 j
    | 6 => v = .pointer (some ⟨b', off' + j, none⟩)
    | 7 => v = .float .f32 y
    | 8 => ∃ r, v = .float .f32 r ∧ canon .f32 r = fop .mul .f32 (canon .f32 x) (canon .f32 y)
    | 9 => ∃ r, v = .float .f32 r ∧ canon .f32 r = fop .mul .f32 (canon .f32 x) (canon .f32 y)
    | _ => False) (fun _ ww => ∃ nn, ww = w.drewN nn) (by kernel_rfl) (by kernel_rfl) ⟨1, rfl⟩ ?hop ?hend
  case hop =>
    intro q o hq listed act w3 hI hnot hcl hall
    obtain ⟨nn, rfl⟩ := hI.cls
    rcases q with _ | _ | _ | _ | _ | _ | _ | _ | _ | _ | q
    · simp at hq; subst hq
      have g1 : act.tmps[1]?.getD undef = .pointer (some ⟨B, 0, none⟩) := hI.kept 1 (by kernel_rfl)
      clear hI hall hnot hcl
      refine .inl ⟨wanted_none rfl, ?_⟩
      unfold Oper.wp
      go_simp
      all_goals exact ⟨_, rfl, rfl, ⟨_, rfl⟩⟩
    · simp at hq; subst hq
      have g0 : act.tmps[0]?.getD undef = .int .i64 j := hI.kept 0 (by kernel_rfl)
      clear hI hall hnot hcl
      refine .inl ⟨wanted_none rfl, ?_⟩
      unfold Oper.wp
      go_simp
      all_goals exact ⟨_, rfl, rfl, ⟨_, rfl⟩⟩
    · simp at hq; subst hq
      have g5 : act.tmps[5]?.getD undef = .slice (some ⟨b, off, none⟩) xs.length cap := hI.has 0 5 rfl (hall ⟨0, .data⟩ (by simp) rfl)
      have g6 : act.tmps[6]?.getD undef = .int .i64 j := hI.has 1 6 rfl (hall ⟨1, .data⟩ (by simp) rfl)
      clear hI hall hnot hcl
      refine .inl ⟨wanted_none rfl, ?_⟩
      unfold Oper.wp
      go_simp
      all_goals exact ⟨_, rfl, rfl, ⟨_, rfl⟩⟩
    · simp at hq; subst hq
      have g7 : act.tmps[7]?.getD undef = .pointer (some ⟨b, off + j, none⟩) := hI.has 2 7 rfl (hall ⟨2, .data⟩ (by simp) rfl)
      clear hI hall hnot hcl
      refine .inl ⟨wanted_none rfl, ?_⟩
      unfold Oper.wp
      go_simp
      all_goals exact ⟨_, rfl, rfl, ⟨_, rfl⟩⟩
    · simp at hq; subst hq
      have g2 : act.tmps[2]?.getD undef = .pointer (some ⟨B', 0, none⟩) := hI.kept 2 (by kernel_rfl)
      clear hI hall hnot hcl
      refine .inl ⟨wanted_none rfl, ?_⟩
      unfold Oper.wp
      go_simp
      all_goals exact ⟨_, rfl, rfl, ⟨_, rfl⟩⟩
    · simp at hq; subst hq
      have g0 : act.tmps[0]?.getD undef = .int .i64 j := hI.kept 0 (by kernel_rfl)
      clear hI hall hnot hcl
      refine .inl ⟨wanted_none rfl, ?_⟩
      unfold Oper.wp
      go_simp
      all_goals exact ⟨_, rfl, rfl, ⟨_, rfl⟩⟩
    · simp at hq; subst hq
      have g9 : act.tmps[9]?.getD undef = .slice (some ⟨b', off', none⟩) ys.length cap' := hI.has 4 9 rfl (hall ⟨4, .data⟩ (by simp) rfl)
      have g10 : act.tmps[10]?.getD undef = .int .i64 j := hI.has 5 10 rfl (hall ⟨5, .data⟩ (by simp) rfl)
      clear hI hall hnot hcl
      refine .inl ⟨wanted_none rfl, ?_⟩
      unfold Oper.wp
      go_simp
      all_goals exact ⟨_, rfl, rfl, ⟨_, rfl⟩⟩
    · simp at hq; subst hq
      have g11 : act.tmps[11]?.getD undef = .pointer (some ⟨b', off' + j, none⟩) := hI.has 6 11 rfl (hall ⟨6, .data⟩ (by simp) rfl)
      clear hI hall hnot hcl
      refine .inl ⟨wanted_none rfl, ?_⟩
      unfold Oper.wp
      go_simp
      all_goals exact ⟨_, rfl, rfl, ⟨_, rfl⟩⟩
    · simp at hq; subst hq
      have g8 : act.tmps[8]?.getD undef = .float .f32 x := hI.has 3 8 rfl (hall ⟨3, .data⟩ (by simp) rfl)
      have g12 : act.tmps[12]?.getD undef = .float .f32 y := hI.has 7 12 rfl (hall ⟨7, .data⟩ (by simp) rfl)
      clear hI hall hnot hcl
      refine .inl ⟨wanted_none rfl, ?_⟩
      unfold Oper.wp
      go_simp
      refine (i_mulNumbers _ _ _).mono ?_
      rintro e w4 ⟨rfl, rfl⟩
      exact ⟨_, rfl, ⟨_, rfl, canonF rfl rfl⟩, by first | exact ⟨_, rfl⟩ | exact hdd _ _⟩
    · simp at hq; subst hq
      obtain ⟨r8, g13, h8a⟩ := hI.has 8 13 rfl (hall ⟨8, .data⟩ (by simp) rfl)
      clear hI hall hnot hcl
      refine .inl ⟨wanted_none rfl, ?_⟩
      unfold Oper.wp
      go_simp
      exact ⟨_, rfl, ⟨_, rfl, h8a⟩, ⟨_, rfl⟩⟩
    · simp at hq
  case hend =>
    intro listed act w3 hI hall
    obtain ⟨nn, rfl⟩ := hI.cls
    obtain ⟨rq, g4, hrq⟩ := hI.has 9 4 rfl (hall 9 (by decide))
    have hd := hI.defers
    clear hI hall
    go_wp2
    refine bodyPost_ret (v := .float .f32 rq) (by simp [results, Try.results128, g4, go_sem]) (by first | rfl | exact hd) ⟨rq, rfl, ?_, nn, rfl⟩
    rw [hrq, HX.out]
set_option maxHeartbeats 4000000 in
set_option maxRecDepth 100000 in
theorem i_listOf_prod (c0 c1 : Value) (q : Nat → Nat) (n : Nat) (w : World) (hn : n ≤ 1048576)
    (hat : ∀ k, k < n → ∀ wr, Below w.heap.size w wr → Calls Try.prog 128 #[.int .i64 k, c0, c1] wr fun e w' => ∃ r, e = .returned (.float .f32 r) ∧ canon .f32 r = q k ∧ Below wr.heap.size wr w') :
    Calls Try.prog 73 #[.int .i64 n, .func (.func 128) #[] #[c0, c1]] w fun e w' => ∃ (A : Option Addr) (xs : List Nat), e = .returned (.slice A n n) ∧ xs.length = n ∧ Fl w' A xs ∧ (∀ k, k < n → canon .f32 (xs.getD k 0) = q k) ∧ Below w.heap.size w w' := by
  have hmk := make_f32 n w hn
  have HA := Lib.hid hat; clear hat
  go_enter Try.func73, Try.ntmps73
  go_wp2
  go_loopw [11] (fun i wr => ∃ (k : Nat) (ys : List Nat), k ≤ n ∧ i = .int .i64 k ∧ FlNew w wr w.heap.size n k ys ∧ ys.length = n ∧ Hid (∀ j, j < k → canon .f32 (ys.getD j 0) = q j)) (fun i _ => n - (intOf i).toNat)
  case atStart => exact ⟨0, List.replicate n 0, Nat.zero_le _, rfl, FlNew.start .., by simp, Lib.hid (fun j hj => absurd hj (Nat.not_lt_zero j))⟩
  case round =>
    obtain ⟨k, ys, hk, rfl, hnew, hlen, hq⟩ := hrel
    clear hmk
    by_cases hlt : k < n
    · have hcall := HA.out k hlt _ hnew.1
      have HN := Lib.hid hnew; clear hnew
      have hwr : IntKind.i64.wrap ((k : Int) + 1) = (k : Int) + 1 := IntWalk.i64_in _ (by omega)
      go_wp2_with fail
      refine hcall.mono ?_
      rintro e w1 ⟨r, rfl, hr, b1⟩
      have hn1 := HN.out.below b1
      obtain ⟨hc2, hc3⟩ := hn1.2.2.2 k hlt
      rw [if_neg (by omega)] at hc2
      have hst := (hn1.congr (ys := ys.set k r) (fun j hj => by rw [getD_lset (by omega), if_neg (by omega)])).step hlt
      rw [getD_lset (by omega), if_pos rfl] at hst
      have HS := Lib.hid hst
      have HQ : Hid (∀ j, j < k + 1 → canon .f32 ((ys.set k r).getD j 0) = q j) := Lib.hid (fun j hj => by
        rw [getD_lset (by omega)]
        by_cases e : k = j
        · rw [if_pos e, hr, e]
        · rw [if_neg e]; exact hq.out j (by omega))
      clear hst hn1 hr b1 hcall
      go_wp2
      go_roundw
      case rel => exact ⟨k + 1, ys.set k r, by omega, by go_num, HS.out, by simp [hlen], HQ⟩
      case measure => simp [intOf]; omega
    · have HN := Lib.hid hnew; clear hnew
      have hkk : k = n := by omega
      subst hkk
      go_wp2
      go_ret
      exact ⟨_, ys, rfl, hlen, by subst hlen; exact HN.out.done (Nat.le_refl _), hq.out, HN.out.1⟩
set_option maxHeartbeats 4000000 in
set_option maxRecDepth 100000 in
theorem i_productsOf (A L : Option Addr) (cap cap' : Nat) (xs ys : List Nat) (w : World) (h : Fl w A xs) (h' : Fl w L ys) (hn : xs.length ≤ 1048576) (hl : xs.length ≤ ys.length) :
    Calls Try.prog 113 #[.slice A xs.length cap, .slice L ys.length cap'] w fun e w' => ∃ (Z : Option Addr) (zs : List Nat), e = .returned (.slice Z xs.length xs.length) ∧ zs.length = xs.length ∧ Fl w' Z zs ∧ (∀ k, k < xs.length → canon .f32 (zs.getD k 0) = prodAt xs ys k) ∧ Below w.heap.size w w' := by
  have HF := Lib.hid h; clear h
  have HG := Lib.hid h'; clear h'
  have HL := Lib.hid hl; clear hl
  obtain ⟨w2, hw2⟩ : ∃ w2, w2 = (w.alloc (.cells #[.slice A xs.length cap] 22)).alloc (.cells #[.slice L ys.length cap'] 22) := ⟨_, rfl⟩
  have K0 : Hid (BlkL w2 w.heap.size [.slice A xs.length cap]) := Lib.hid (by rw [hw2]; exact (blkL_at w #[.slice A xs.length cap] 22 rfl).alloc _)
  have K1 : Hid (BlkL w2 (w.heap.size + 1) [.slice L ys.length cap']) := Lib.hid (by rw [hw2]; exact blkL_at (w.alloc _) #[.slice L ys.length cap'] 22 (by simp))
  have B2 : Hid (Below w.heap.size w w2) := Lib.hid (by rw [hw2]; exact ((Below.refl _ _).alloc (Nat.le_refl _) _).alloc (by simp) _)
  go_enter Try.func113, Try.ntmps113
  go_wp2_with fail
  rw [← hw2]
  clear hw2
  refine (i_listOf_prod _ _ (prodAt xs ys) xs.length _ hn (fun k hk wr hb => (i_prodAt w.heap.size (w.heap.size + 1) k A L cap cap' xs ys wr (HF.out.below (below_of B2.out B2.out.size hb)) (HG.out.below (below_of B2.out B2.out.size hb)) ((K0.out.below hb).2 0 _ rfl).1 ((K1.out.below hb).2 0 _ rfl).1 hk (by have := HL.out; omega)).mono fun e w' ⟨r, he, hr, n, hw⟩ => ⟨r, he, hr, by rw [hw]; exact below_draws (Below.refl _ _) _⟩)).mono ?_
  rintro e w3 ⟨Z, zs, rfl, hlen, hfl, hq, b3⟩
  have B3 : Hid (Below w.heap.size w w3) := Lib.hid (below_of B2.out B2.out.size b3)
  have HZ := Lib.hid hfl
  have HQ := Lib.hid hq
  have HN := Lib.hid hlen
  clear b3 hfl hq hlen
  go_wp2
  go_ret
  exact ⟨_, zs, rfl, HN.out, HZ.out, HQ.out, B3.out⟩
set_option maxHeartbeats 4000000 in
set_option maxRecDepth 100000 in
theorem i_weightedMean (A L : Option Addr) (ca cl : Nat) (a l : List Nat) (w : World) (h : Fl w A a) (h' : Fl w L l) (hn : a.length ≤ 256) (hl : l.length = a.length) :
    Calls Try.prog 60 #[.slice L l.length cl, .slice A a.length ca] w fun e w' => ∃ r, e = .returned (.tuple #[.float .f32 r, .bool (fin .f32 (mrV a l))]) ∧ canon .f32 r = onlyN (mrV a l) ∧ Below w.heap.size w w' := by
  have HF := Lib.hid h; clear h
  have HG := Lib.hid h'; clear h'
  have HL := Lib.hid hl; clear hl
  go_enter Try.func60, Try.ntmps60
  go_wp2_with fail
  refine (i_sumOf A ca a _ HF.out hn).mono ?_
  rintro e w' ⟨rs, n1, rfl, hs, rfl⟩
  have HS := Lib.hid hs; clear hs
  go_wp2_with fail
  refine (i_productsOf A L ca cl a l _ (HF.out.draws _) (HG.out.draws _) (by omega) (by have := HL.out; omega)).mono ?_
  rintro e w3 ⟨Z, zs, rfl, hlen, hfl, hq, b3⟩
  have B3 : Hid (Below w.heap.size w w3) := Lib.hid (below_of (below_draws (Below.refl _ _) n1) (Nat.le_refl _) b3)
  have HQ : Hid (sumK zs zs.length = dotK a l a.length) := Lib.hid (by rw [hlen]; exact sumK_dot hq _ (Nat.le_refl _))
  have hl2 : zs.length ≤ 256 := by omega
  have HE : Hid (∀ cp b W, Fl W Z zs → Calls Try.prog 112 #[.slice Z a.length cp, .float .f32 b, .func (.func 114) #[] #[]] W fun e w' => ∃ r n, e = .returned (.float .f32 r) ∧ canon .f32 r = fop .quo .f32 (sumK zs zs.length) (canon .f32 b) ∧ w' = W.drewN n) := Lib.hid (by rw [← hlen]; exact fun cp b W hh => i_meanOf Z cp zs b W hh hl2)
  have HZ := Lib.hid hfl
  clear b3 hfl hq hlen hl2
  go_wp2_with fail
  refine (HE.out _ _ _ HZ.out).mono ?_
  rintro e w' ⟨r1, n2, rfl, h1, rfl⟩
  have H1 : Hid (canon .f32 r1 = mrV a l) := Lib.hid (by rw [h1, HQ.out, HS.out]; rfl)
  clear h1
  go_wp2_with fail
  refine (i_onlyFiniteC _ _ _ H1.out).mono ?_
  rintro e w' ⟨r3, n4, rfl, h3, rfl⟩
  have H3 := Lib.hid h3; clear h3
  go_wp2
  go_ret2
  exact ⟨_, rfl, H3.out, by repeat (first | exact B3.out | refine below_draws ?_ _)⟩
set_option maxHeartbeats 4000000 in
set_option maxRecDepth 100000 in
theorem i_MeanOfRose (A L : Option Addr) (ca cl : Nat) (a l : List Nat) (w : World) (h : Rs w A L a l) (hn : FewS a l) :
    Calls Try.prog 23 #[.agg #[.slice A a.length ca, .slice L l.length cl]] w fun e w' => ∃ r, e = .returned (.tuple #[.float .f32 r, .bool (mrO a l)]) ∧ canon .f32 r = mrR a l ∧ Below w.heap.size w w' := by
  have HP := Lib.hid h; clear h
  have HB : ∀ o1, Hid (Below w.heap.size w (w.alloc o1)) := fun _ => Lib.hid ((Below.refl _ _).alloc (Nat.le_refl _) _)
  have K0 : ∀ t, Hid (BlkL (w.alloc (.cells #[.slice A a.length ca, .slice L l.length cl] t)) w.heap.size [.slice A a.length ca, .slice L l.length cl]) := fun _ => Lib.hid (blkL_at w #[.slice A a.length ca, .slice L l.length cl] _ rfl)
  go_enter Try.func23, Try.ntmps23
  go_wp2_with fail
  refine (i_ValidRose A L ca cl a l _ (HP.out.below (HB _).out) hn).mono ?_
  rintro e w1 ⟨rfl, b1⟩
  have B1 : Hid (Below w.heap.size w w1) := Lib.hid (below_of (HB _).out (HB _).out.size b1)
  have K1 : Hid (BlkL w1 w.heap.size [.slice A a.length ca, .slice L l.length cl]) := Lib.hid ((K0 _).out.below b1)
  clear b1
  obtain ⟨k0, k1⟩ := K1.out.two
  cases v : rosV a l
  · go_wp2
    go_ret2
    exact ⟨_, by unfold mrO; rw [v]; rfl, by unfold mrR; rw [v]; exact canon_zero, B1.out⟩
  · have V := Lib.hid v
    obtain ⟨s1, s2, s3⟩ := rosV_sized v
    have HPB := Lib.hid (HP.out.below B1.out)
    have S3 := Lib.hid s3
    clear v s3
    go_wp2_with fail
    refine (i_weightedMean A L ca cl a l _ HPB.out.1 HPB.out.2 (by omega) S3.out).mono ?_
    rintro e w2 ⟨r, rfl, hr, b2⟩
    have HR := Lib.hid hr
    have B2 : Hid (Below w.heap.size w w2) := Lib.hid (below_of B1.out B1.out.size b2)
    clear hr b2 k0 k1
    go_wp2
    go_ret2
    exact ⟨_, by unfold mrO; rw [V.out]; rfl, by rw [HR.out]; unfold mrR; rw [V.out]; rfl, B2.out⟩
set_option maxHeartbeats 4000000 in
theorem s_l04Shares (A L : Option Addr) (ca cl : Nat) (a l : List Nat) (B : Nat) (w : World) (h : Rs w A L a l) (hn : FewS a l) (hk : BlkL w B [.slice A a.length ca, .slice L l.length cl]) :
    Calls Try.prog 59 #[.pointer (some ⟨B, 0, none⟩)] w fun e w' => ∃ r n, e = .returned (.float .f32 r) ∧ canon .f32 r = sumK a a.length ∧ w' = w.drewN n := by
  unfold FewS at hn
  have HP := Lib.hid h; clear h
  obtain ⟨k0, k1⟩ := hk.two
  clear hk
  go_enter Try.func59, Try.ntmps59
  go_wp2
  go_loopw [3, 4] (fun s i wr => ∃ k n r : Nat, k ≤ a.length ∧ i = .int .i64 k ∧ s = .float .f32 r ∧ Hid (canon .f32 r = sumK a k) ∧ wr = w.drewN n) (fun _ i _ => a.length - (intOf i).toNat)
  case atStart => exact ⟨0, 0, 0, Nat.zero_le _, rfl, rfl, canon_zero, rfl⟩
  case round =>
    obtain ⟨k, n, r, hk, rfl, rfl, hr, rfl⟩ := hrel
    by_cases hlt : k < a.length
    · obtain ⟨b, off, rfl, hb, hc⟩ := HP.out.1.at_ hlt
      have HS : Hid (sumK a (k + 1) = fop .add .f32 (sumK a k) (canon .f32 (a.getD k 0))) := rfl
      generalize a.getD k 0 = x at hc HS
      go_wp2
      go_roundw
      case rel => exact ⟨k + 1, _, _, by omega, by go_num, rfl, Lib.hid (by rw [canon_fopV, hr.out, HS.out]), rfl⟩
      case measure => simp [intOf]; omega
    · have hkk : k = a.length := by omega
      subst hkk
      go_wp2
      go_ret
      exact ⟨_, _, rfl, hr.out, rfl⟩
set_option maxHeartbeats 8000000 in
set_option maxRecDepth 100000 in
theorem s_MeanOfRose (A L : Option Addr) (ca cl : Nat) (a l : List Nat) (w : World) (h : Rs w A L a l) (hn : FewS a l) :
    Calls Try.prog 22 #[.agg #[.slice A a.length ca, .slice L l.length cl]] w fun e w' => ∃ r, e = .returned (.tuple #[.float .f32 r, .bool (mrO a l)]) ∧ canon .f32 r = mrR a l ∧ Below w.heap.size w w' := by
  have HP := Lib.hid h; clear h
  obtain ⟨w1, hw1⟩ : ∃ w1, w1 = w.alloc (.cells #[.slice A a.length ca, .slice L l.length cl] 27) := ⟨_, rfl⟩
  have B1 : Hid (Below w.heap.size w w1) := Lib.hid (by rw [hw1]; exact (Below.refl _ _).alloc (Nat.le_refl _) _)
  have K1 : Hid (BlkL w1 w.heap.size [.slice A a.length ca, .slice L l.length cl]) := Lib.hid (by rw [hw1]; exact blkL_at w #[.slice A a.length ca, .slice L l.length cl] _ rfl)
  obtain ⟨k0, k1⟩ := K1.out.two
  have HPB := Lib.hid (HP.out.below B1.out)
  go_enter Try.func22, Try.ntmps22
  go_wp2_with fail
  rw [← hw1]
  clear hw1
  refine (s_l04Rose A L ca cl a l _ _ HPB.out hn K1.out).mono ?_
  rintro e w' ⟨rfl, n1, rfl⟩
  cases v : rosV a l
  · go_wp2
    go_ret2
    exact ⟨_, by unfold mrO; rw [v]; rfl, by unfold mrR; rw [v]; exact canon_zero, below_draws B1.out _⟩
  · have V := Lib.hid v
    obtain ⟨s1, s2, s3⟩ := rosV_sized v
    clear v
    have hle : a.length ≤ l.length := by omega
    have S3 := Lib.hid s3; clear s3
    go_wp2_with fail
    go_loopw [4, 5] (fun s i wr => ∃ k n r : Nat, k ≤ a.length ∧ i = .int .i64 k ∧ s = .float .f32 r ∧ Hid (canon .f32 r = dotK a l k) ∧ wr = w1.drewN n) (fun _ i _ => a.length - (intOf i).toNat)
    case atStart => exact ⟨0, _, 0, Nat.zero_le _, rfl, rfl, canon_zero, rfl⟩
    case round =>
      obtain ⟨k, n, r, hk, rfl, rfl, hr, rfl⟩ := hrel
      by_cases hlt : k < a.length
      · obtain ⟨b, off, rfl, hb, hc⟩ := HPB.out.1.at_ hlt
        obtain ⟨b', off', rfl, hb', hc'⟩ := HPB.out.2.at_ (show k < l.length by omega)
        have hlt2 : k < l.length := by omega
        have HS : Hid (dotK a l (k + 1) = fop .add .f32 (dotK a l k) (fop .mul .f32 (canon .f32 (a.getD k 0)) (canon .f32 (l.getD k 0)))) := rfl
        generalize a.getD k 0 = x at hc HS
        generalize l.getD k 0 = y at hc' HS
        clear hb hb'
        have hdd : ∀ nn j, ∃ mm, (w1.drewN nn).drewN j = w1.drewN mm := fun nn j => ⟨nn + j, World.drewN_drewN ..⟩
        have hst : ∀ m, ∃ nn, { (w1.drewN m) with drawn := (w1.drewN m).drawn + 1 } = w1.drewN nn := fun m => ⟨m + 1, rfl⟩
        go_wp2_with fail
        refine wp_region_inv3 (fun q0 v => match q0 with
          | 0 => ∃ r, v = .float .f32 r ∧ canon .f32 r = (dotK a l k)
          | 1 => v = .pointer (some ⟨w.heap.size, 0, none⟩)
          | 2 => v = .slice (some ⟨b, off, none⟩) a.length ca
          | 3 => v = .int .i64 k
          | 4 => v = .pointer (some ⟨b, off + k, none⟩)
          | 5 => v = .float .f32 x
          | 6 => v = .pointer (some ⟨w.heap.size, 1, none⟩)
          | 7 => v = .slice (some ⟨b', off', none⟩) l.length cl
          | 8 => v = .int .i64 k
          | 9 => v = .pointer (some ⟨b', off' + k, none⟩)
          | 10 => v = .float .f32 y
          | 11 => ∃ r, v = .float .f32 r ∧ canon .f32 r = fop .mul .f32 (canon .f32 x) (canon .f32 y)
          | 12 => ∃ r, v = .float .f32 r ∧ canon .f32 r = fop .add .f32 ((dotK a l k)) (fop .mul .f32 (canon .f32 x) (canon .f32 y))
          | 13 => ∃ r, v = .float .f32 r ∧ canon .f32 r = fop .add .f32 ((dotK a l k)) (fop .mul .f32 (canon .f32 x) (canon .f32 y))
          | _ => False) (fun _ ww => ∃ nn, ww = w1.drewN nn) (by kernel_rfl) (by kernel_rfl) (hst _) ?hop ?hend
        case hop =>
          intro q o hq listed act w3 hI hnot hcl hall
          obtain ⟨nn, rfl⟩ := hI.cls
          rcases q with _ | _ | _ | _ | _ | _ | _ | _ | _ | _ | _ | _ | _ | _ | q
          · simp at hq; subst hq
            have hnl : listed.getD 13 false = false := hcl.not (j := 13) (i := 0) (e := ⟨0, .phase⟩) rfl (by simp) rfl rfl hnot
            have g4 : act.tmps[4]?.getD undef = .float .f32 r := hI.keptN 4 13 (by kernel_rfl) hnl
            clear hI hall hnot hcl
            refine .inl ⟨wanted_none rfl, ?_⟩
            unfold Oper.wp
            go_simp
            exact ⟨_, rfl, ⟨_, rfl, hr.out⟩, ⟨_, rfl⟩⟩
          · simp at hq; subst hq
            have g1 : act.tmps[1]?.getD undef = .pointer (some ⟨w.heap.size, 0, none⟩) := hI.kept 1 (by kernel_rfl)
            clear hI hall hnot hcl
            refine .inl ⟨wanted_none rfl, ?_⟩
            unfold Oper.wp
            go_simp
            all_goals exact ⟨_, rfl, rfl, ⟨_, rfl⟩⟩
          · simp at hq; subst hq
            have g16 : act.tmps[16]?.getD undef = .pointer (some ⟨w.heap.size, 0, none⟩) := hI.has 1 16 rfl (hall ⟨1, .data⟩ (by simp) rfl)
            clear hI hall hnot hcl
            refine .inl ⟨wanted_none rfl, ?_⟩
            unfold Oper.wp
            go_simp
            all_goals exact ⟨_, rfl, rfl, ⟨_, rfl⟩⟩
          · simp at hq; subst hq
            have g5 : act.tmps[5]?.getD undef = .int .i64 k := hI.kept 5 (by kernel_rfl)
            clear hI hall hnot hcl
            refine .inl ⟨wanted_none rfl, ?_⟩
            unfold Oper.wp
            go_simp
            all_goals exact ⟨_, rfl, rfl, ⟨_, rfl⟩⟩
          · simp at hq; subst hq
            have g17 : act.tmps[17]?.getD undef = .slice (some ⟨b, off, none⟩) a.length ca := hI.has 2 17 rfl (hall ⟨2, .data⟩ (by simp) rfl)
            have g18 : act.tmps[18]?.getD undef = .int .i64 k := hI.has 3 18 rfl (hall ⟨3, .data⟩ (by simp) rfl)
            clear hI hall hnot hcl
            refine .inl ⟨wanted_none rfl, ?_⟩
            unfold Oper.wp
            go_simp
            all_goals exact ⟨_, rfl, rfl, ⟨_, rfl⟩⟩
          · simp at hq; subst hq
            have g19 : act.tmps[19]?.getD undef = .pointer (some ⟨b, off + k, none⟩) := hI.has 4 19 rfl (hall ⟨4, .data⟩ (by simp) rfl)
            clear hI hall hnot hcl
            refine .inl ⟨wanted_none rfl, ?_⟩
            unfold Oper.wp
            go_simp
            all_goals exact ⟨_, rfl, rfl, ⟨_, rfl⟩⟩
          · simp at hq; subst hq
            have g1 : act.tmps[1]?.getD undef = .pointer (some ⟨w.heap.size, 0, none⟩) := hI.kept 1 (by kernel_rfl)
            clear hI hall hnot hcl
            refine .inl ⟨wanted_none rfl, ?_⟩
            unfold Oper.wp
            go_simp
            all_goals exact ⟨_, rfl, rfl, ⟨_, rfl⟩⟩
          · simp at hq; subst hq
            have g21 : act.tmps[21]?.getD undef = .pointer (some ⟨w.heap.size, 1, none⟩) := hI.has 6 21 rfl (hall ⟨6, .data⟩ (by simp) rfl)
            clear hI hall hnot hcl
            refine .inl ⟨wanted_none rfl, ?_⟩
            unfold Oper.wp
            go_simp
            all_goals exact ⟨_, rfl, rfl, ⟨_, rfl⟩⟩
          · simp at hq; subst hq
            have g5 : act.tmps[5]?.getD undef = .int .i64 k := hI.kept 5 (by kernel_rfl)
            clear hI hall hnot hcl
            refine .inl ⟨wanted_none rfl, ?_⟩
            unfold Oper.wp
            go_simp
            all_goals exact ⟨_, rfl, rfl, ⟨_, rfl⟩⟩
          · simp at hq; subst hq
            have g22 : act.tmps[22]?.getD undef = .slice (some ⟨b', off', none⟩) l.length cl := hI.has 7 22 rfl (hall ⟨7, .data⟩ (by simp) rfl)
            have g23 : act.tmps[23]?.getD undef = .int .i64 k := hI.has 8 23 rfl (hall ⟨8, .data⟩ (by simp) rfl)
            clear hI hall hnot hcl
            refine .inl ⟨wanted_none rfl, ?_⟩
            unfold Oper.wp
            go_simp
            all_goals exact ⟨_, rfl, rfl, ⟨_, rfl⟩⟩
          · simp at hq; subst hq
            have g24 : act.tmps[24]?.getD undef = .pointer (some ⟨b', off' + k, none⟩) := hI.has 9 24 rfl (hall ⟨9, .data⟩ (by simp) rfl)
            clear hI hall hnot hcl
            refine .inl ⟨wanted_none rfl, ?_⟩
            unfold Oper.wp
            go_simp
            all_goals exact ⟨_, rfl, rfl, ⟨_, rfl⟩⟩
          · simp at hq; subst hq
            have g20 : act.tmps[20]?.getD undef = .float .f32 x := hI.has 5 20 rfl (hall ⟨5, .data⟩ (by simp) rfl)
            have g25 : act.tmps[25]?.getD undef = .float .f32 y := hI.has 10 25 rfl (hall ⟨10, .data⟩ (by simp) rfl)
            clear hI hall hnot hcl
            refine .inl ⟨wanted_none rfl, ?_⟩
            unfold Oper.wp
            go_simp
            exact ⟨_, rfl, ⟨_, rfl, canonF rfl rfl⟩, by first | exact ⟨_, rfl⟩ | exact hdd _ _⟩
          · simp at hq; subst hq
            obtain ⟨r0, g15, h0a⟩ := hI.has 0 15 rfl (hall ⟨0, .data⟩ (by simp) rfl)
            obtain ⟨r11, g26, h11a⟩ := hI.has 11 26 rfl (hall ⟨11, .data⟩ (by simp) rfl)
            clear hI hall hnot hcl
            refine .inl ⟨wanted_none rfl, ?_⟩
            unfold Oper.wp
            go_simp
            exact ⟨_, rfl, ⟨_, rfl, canonF h0a h11a⟩, by first | exact ⟨_, rfl⟩ | exact hdd _ _⟩
          · simp at hq; subst hq
            obtain ⟨r12, g27, h12a⟩ := hI.has 12 27 rfl (hall ⟨12, .data⟩ (by simp) rfl)
            clear hI hall hnot hcl
            refine .inl ⟨wanted_none rfl, ?_⟩
            unfold Oper.wp
            go_simp
            exact ⟨_, rfl, ⟨_, rfl, h12a⟩, ⟨_, rfl⟩⟩
          · simp at hq
        case hend =>
          intro listed act w3 hI hall
          obtain ⟨nn, rfl⟩ := hI.cls
          obtain ⟨rq, g4, hrq⟩ := hI.has 13 4 rfl (hall 13 (by decide))
          have g5 : act.tmps[5]?.getD undef = .int .i64 k := hI.kept 5 (by kernel_rfl)
          have g0 := hI.kept 0 (by kernel_rfl)
          conv at g0 => rhs; whnf
          have g1 := hI.kept 1 (by kernel_rfl)
          conv at g1 => rhs; whnf
          have g2 := hI.kept 2 (by kernel_rfl)
          conv at g2 => rhs; whnf
          have g3 := hI.kept 3 (by kernel_rfl)
          conv at g3 => rhs; whnf
          have g6 := hI.kept 6 (by kernel_rfl)
          conv at g6 => rhs; whnf
          have g7 := hI.kept 7 (by kernel_rfl)
          conv at g7 => rhs; whnf
          have g28 : act.tmps[28]?.getD undef = undef := hI.kept 28 (by kernel_rfl)
          have g29 : act.tmps[29]?.getD undef = undef := hI.kept 29 (by kernel_rfl)
          have g30 : act.tmps[30]?.getD undef = undef := hI.kept 30 (by kernel_rfl)
          have g31 : act.tmps[31]?.getD undef = undef := hI.kept 31 (by kernel_rfl)
          have g32 : act.tmps[32]?.getD undef = undef := hI.kept 32 (by kernel_rfl)
          have g33 : act.tmps[33]?.getD undef = undef := hI.kept 33 (by kernel_rfl)
          have hsz : act.tmps.size = 34 := hI.size.trans (by kernel_rfl)
          have hd := hI.defers
          clear hI hall
          obtain ⟨tt, dd⟩ := act
          simp only at g0 g1 g2 g3 g4 g5 g6 g7 g28 g29 g30 g31 g32 g33 hsz hd
          subst hd
          have hl : tt = #[tt[0]?.getD undef, tt[1]?.getD undef, tt[2]?.getD undef, tt[3]?.getD undef, tt[4]?.getD undef, tt[5]?.getD undef, tt[6]?.getD undef, tt[7]?.getD undef, tt[8]?.getD undef, tt[9]?.getD undef, tt[10]?.getD undef, tt[11]?.getD undef, tt[12]?.getD undef, tt[13]?.getD undef, tt[14]?.getD undef, tt[15]?.getD undef, tt[16]?.getD undef, tt[17]?.getD undef, tt[18]?.getD undef, tt[19]?.getD undef, tt[20]?.getD undef, tt[21]?.getD undef, tt[22]?.getD undef, tt[23]?.getD undef, tt[24]?.getD undef, tt[25]?.getD undef, tt[26]?.getD undef, tt[27]?.getD undef, tt[28]?.getD undef, tt[29]?.getD undef, tt[30]?.getD undef, tt[31]?.getD undef, tt[32]?.getD undef, tt[33]?.getD undef] := (arr_lit hsz).trans rfl
          rw [g0, g1, g2, g3, g4, g5, g6, g7, g28, g29, g30, g31, g32, g33] at hl
          clear g0 g1 g2 g3 g4 g5 g6 g7 g28 g29 g30 g31 g32 g33 hsz
          generalize tt[8]?.getD undef = y8 at hl
          generalize tt[9]?.getD undef = y9 at hl
          generalize tt[10]?.getD undef = y10 at hl
          generalize tt[11]?.getD undef = y11 at hl
          generalize tt[12]?.getD undef = y12 at hl
          generalize tt[13]?.getD undef = y13 at hl
          generalize tt[14]?.getD undef = y14 at hl
          generalize tt[15]?.getD undef = y15 at hl
          generalize tt[16]?.getD undef = y16 at hl
          generalize tt[17]?.getD undef = y17 at hl
          generalize tt[18]?.getD undef = y18 at hl
          generalize tt[19]?.getD undef = y19 at hl
          generalize tt[20]?.getD undef = y20 at hl
          generalize tt[21]?.getD undef = y21 at hl
          generalize tt[22]?.getD undef = y22 at hl
          generalize tt[23]?.getD undef = y23 at hl
          generalize tt[24]?.getD undef = y24 at hl
          generalize tt[25]?.getD undef = y25 at hl
          generalize tt[26]?.getD undef = y26 at hl
          generalize tt[27]?.getD undef = y27 at hl
          subst hl
          go_wp2
          go_roundw
          case rel => exact ⟨k + 1, _, _, by omega, by go_num, rfl, Lib.hid (by rw [hrq, HS.out]), rfl⟩
          case measure => simp [intOf]; omega
      · have hkk : k = a.length := by omega
        subst hkk
        go_wp2_with fail
        refine (s_l04Shares A L ca cl a l _ _ (HPB.out.draws _) hn (K1.out.draws _)).mono ?_
        rintro e w' ⟨rs, n2, rfl, hs, rfl⟩
        have HS := Lib.hid hs; clear hs
        go_wp2_with fail
        refine (s_l02NumberC _ (mrV a l) _ (canonF hr.out HS.out)).mono ?_
        rintro e w' ⟨r3, n4, rfl, h3, rfl⟩
        have H3 := Lib.hid h3; clear h3
        go_wp2
        go_ret2
        exact ⟨_, by unfold mrO; rw [V.out]; rfl, by rw [H3.out]; unfold mrR; rw [V.out]; rfl, by repeat (first | exact B1.out | refine below_draws ?_ _)⟩
end Go.Proofs.Yteligfbbofgonab
