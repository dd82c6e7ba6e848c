/- The mean of a rose: both sides. No statement is proved here. -/
import Derived.Test.YtpmjikchlofebaaRose
import Derived.Test.YtpmjikchlofebaaList
namespace Go.Proofs.Ytpmjikchlofebaa
open Go Go.RowKit
def prodAt (xs ys : List Nat) (k : Nat) : Nat := fop .mul .f32 (canon .f32 (xs.getD k 0)) (canon .f32 (ys.getD k 0))
def mrV (a l : List Nat) : Nat := fop .quo .f32 (dotK a l a.length) (sumK a a.length)
def mrO (a l : List Nat) : Bool := rosV a l && fin .f32 (mrV a l)
def mrR (a l : List Nat) : Nat := if rosV a l then onlyN (mrV a l) else 0
theorem sumK_dot {xs ys zs : List Nat} {n : Nat} (h : ∀ k, k < n → canon .f32 (zs.getD k 0) = prodAt xs ys k) : ∀ k, k ≤ n → sumK zs k = dotK xs ys k := by
  intro k; induction k with
  | zero => intro _; rfl
  | succ k ih => intro hk; simp only [sumK, dotK, ih (by omega), h k (by omega)]; rfl
theorem canon_sumK (xs : List Nat) : ∀ k, canon .f32 (sumK xs k) = sumK xs k := by
  intro k; cases k with
  | zero => exact canon_zero
  | succ k => exact canon_fop ..
set_option maxHeartbeats 4000000 in
theorem i_prodAt (B B' j : Nat) (A L : Option Addr) (cap cap' : Nat) (xs ys : List Nat) (w : World) (h : Fl w A xs) (h' : Fl w L ys) (hk : w.cell? ⟨B, 0, none⟩ = some (.slice A xs.length cap)) (hk' : w.cell? ⟨B', 0, none⟩ = some (.slice L ys.length cap')) (hj : j < xs.length) (hj' : j < ys.length) :
    Calls Try.prog 156 #[.int .i64 j, .pointer (some ⟨B, 0, none⟩), .pointer (some ⟨B', 0, none⟩)] w fun e w' => ∃ r, e = .returned (.float .f32 r) ∧ canon .f32 r = prodAt xs ys j ∧ ∃ n, w' = w.drewN n := by
  obtain ⟨b, off, rfl, hb, hc⟩ := h.at_ hj
  obtain ⟨b', off', rfl, hb', hc'⟩ := h'.at_ hj'
  clear h hb h' hb'
  have HX : Hid (prodAt xs ys j = fop .mul .f32 (canon .f32 (xs.getD j 0)) (canon .f32 (ys.getD j 0))) := rfl
  obtain ⟨x, hx⟩ : ∃ x, x = xs.getD j 0 := ⟨_, rfl⟩
  obtain ⟨y, hy⟩ : ∃ x, x = ys.getD j 0 := ⟨_, rfl⟩
  rw [← hx, ← hy] at HX
  rw [← hx] at hc
  rw [← hy] at hc'
  clear hx hy
  have hdd : ∀ nn j, ∃ mm, (w.drewN nn).drewN j = w.drewN mm := fun nn j => ⟨nn + j, World.drewN_drewN ..⟩
  go_enter Try.func156, Try.ntmps156
  go_wp2_with fail
  refine wp_region_inv3 (fun q0 v => match q0 with
    | 0 => v = .slice (some ⟨b, off, none⟩) xs.length cap
    | 1 => v = .int .i64 j
    | 2 => v = .pointer (some ⟨b, off + j, none⟩)
    | 3 => v = .float .f32 x
    | 4 => v = .slice (some ⟨b', off', none⟩) ys.length cap'
    | 5 => v = .int .i64 j
    | 6 => v = .pointer (some ⟨b', off' + j, none⟩)
    | 7 => v = .float .f32 y
    | 8 => ∃ r, v = .float .f32 r ∧ canon .f32 r = fop .mul .f32 (canon .f32 x) (canon .f32 y)
    | 9 => ∃ r, v = .float .f32 r ∧ canon .f32 r = fop .mul .f32 (canon .f32 x) (canon .f32 y)
    | _ => False) (fun _ ww => ∃ nn, ww = w.drewN nn) (by kernel_rfl) (by kernel_rfl) ⟨1, rfl⟩ ?hop ?hend
  case hop =>
    intro q o hq listed act w3 hI hnot hcl hall
    obtain ⟨nn, rfl⟩ := hI.cls
    rcases q with _ | _ | _ | _ | _ | _ | _ | _ | _ | _ | q
    · simp at hq; subst hq
      have g1 : act.tmps[1]?.getD undef = .pointer (some ⟨B, 0, none⟩) := hI.kept 1 (by kernel_rfl)
      clear hI hall hnot hcl
      refine .inl ⟨wanted_none rfl, ?_⟩
      unfold Oper.wp
      go_simp
      all_goals exact ⟨_, rfl, rfl, ⟨_, rfl⟩⟩
    · simp at hq; subst hq
      have g0 : act.tmps[0]?.getD undef = .int .i64 j := hI.kept 0 (by kernel_rfl)
      clear hI hall hnot hcl
      refine .inl ⟨wanted_none rfl, ?_⟩
      unfold Oper.wp
      go_simp
      all_goals exact ⟨_, rfl, rfl, ⟨_, rfl⟩⟩
    · simp at hq; subst hq
      have g5 : act.tmps[5]?.getD undef = .slice (some ⟨b, off, none⟩) xs.length cap := hI.has 0 5 rfl (hall ⟨0, .data⟩ (by simp) rfl)
      have g6 : act.tmps[6]?.getD undef = .int .i64 j := hI.has 1 6 rfl (hall ⟨1, .data⟩ (by simp) rfl)
      clear hI hall hnot hcl
      refine .inl ⟨wanted_none rfl, ?_⟩
      unfold Oper.wp
      go_simp
      all_goals exact ⟨_, rfl, rfl, ⟨_, rfl⟩⟩
    · simp at hq; subst hq
      have g7 : act.tmps[7]?.getD undef = .pointer (some ⟨b, off + j, none⟩) := hI.has 2 7 rfl (hall ⟨2, .data⟩ (by simp) rfl)
      clear hI hall hnot hcl
      refine .inl ⟨wanted_none rfl, ?_⟩
      unfold Oper.wp
      go_simp
      all_goals exact ⟨_, rfl, rfl, ⟨_, rfl⟩⟩
    · simp at hq; subst hq
      have g2 : act.tmps[2]?.getD undef = .pointer (some ⟨B', 0, none⟩) := hI.kept 2 (by kernel_rfl)
      clear hI hall hnot hcl
      refine .inl ⟨wanted_none rfl, ?_⟩
      unfold Oper.wp
      go_simp
      all_goals exact ⟨_, rfl, rfl, ⟨_, rfl⟩⟩
    · simp at hq; subst hq
      have g0 : act.tmps[0]?.getD undef = .int .i64 j := hI.kept 0 (by kernel_rfl)
      clear hI hall hnot hcl
      refine .inl ⟨wanted_none rfl, ?_⟩
      unfold Oper.wp
      go_simp
      all_goals exact ⟨_, rfl, rfl, ⟨_, rfl⟩⟩
    · simp at hq; subst hq
      have g9 : act.tmps[9]?.getD undef = .slice (some ⟨b', off', none⟩) ys.length cap' := hI.has 4 9 rfl (hall ⟨4, .data⟩ (by simp) rfl)
      have g10 : act.tmps[10]?.getD undef = .int .i64 j := hI.has 5 10 rfl (hall ⟨5, .data⟩ (by simp) rfl)
      clear hI hall hnot hcl
      refine .inl ⟨wanted_none rfl, ?_⟩
      unfold Oper.wp
      go_simp
      all_goals exact ⟨_, rfl, rfl, ⟨_, rfl⟩⟩
    · simp at hq; subst hq
      have g11 : act.tmps[11]?.getD undef = .pointer (some ⟨b', off' + j, none⟩) := hI.has 6 11 rfl (hall ⟨6, .data⟩ (by simp) rfl)
      clear hI hall hnot hcl
      refine .inl ⟨wanted_none rfl, ?_⟩
      unfold Oper.wp
      go_simp
      all_goals exact ⟨_, rfl, rfl, ⟨_, rfl⟩⟩
    · simp at hq; subst hq
      have g8 : act.tmps[8]?.getD undef = .float .f32 x := hI.has 3 8 rfl (hall ⟨3, .data⟩ (by simp) rfl)
      have g12 : act.tmps[12]?.getD undef = .float .f32 y := hI.has 7 12 rfl (hall ⟨7, .data⟩ (by simp) rfl)
      clear hI hall hnot hcl
      refine .inl ⟨wanted_none rfl, ?_⟩
      unfold Oper.wp
      go_simp
      refine (i_mulNumbers _ _ _).mono ?_
      rintro e w4 ⟨rfl, rfl⟩
      exact ⟨_, rfl, ⟨_, rfl, canonF rfl rfl⟩, by first | exact ⟨_, rfl⟩ | exact hdd _ _⟩
    · simp at hq; subst hq
      obtain ⟨r8, g13, h8a⟩ := hI.has 8 13 rfl (hall ⟨8, .data⟩ (by simp) rfl)
      clear hI hall hnot hcl
      refine .inl ⟨wanted_none rfl, ?_⟩
      unfold Oper.wp
      go_simp
      exact ⟨_, rfl, ⟨_, rfl, h8a⟩, ⟨_, rfl⟩⟩
    · simp at hq
  case hend =>
    intro listed act w3 hI hall
    obtain ⟨nn, rfl⟩ := hI.cls
    obtain ⟨rq, g4, hrq⟩ := hI.has 9 4 rfl (hall 9 (by decide))
    have hd := hI.defers
    clear hI hall
    go_wp2
    refine bodyPost_ret (v := .float .f32 rq) (by simp [results, Try.results156, g4, go_sem]) (by first | rfl | exact hd) ⟨rq, rfl, ?_, nn, rfl⟩
    rw [hrq, HX.out]
set_option maxHeartbeats 4000000 in
set_option maxRecDepth 100000 in
theorem i_listOf_prod (c0 c1 : Value) (q : Nat → Nat) (n : Nat) (w : World) (hn : n ≤ 1048576)
    (hat : ∀ k, k < n → ∀ wr, Below w.heap.size w wr → Calls Try.prog 156 #[.int .i64 k, c0, c1] wr fun e w' => ∃ r, e = .returned (.float .f32 r) ∧ canon .f32 r = q k ∧ Below wr.heap.size wr w') :
    Calls Try.prog 66 #[.int .i64 n, .func (.func 156) #[] #[c0, c1]] w fun e w' => ∃ (A : Option Addr) (xs : List Nat), e = .returned (.slice A n n) ∧ xs.length = n ∧ Fl w' A xs ∧ (∀ k, k < n → canon .f32 (xs.getD k 0) = q k) ∧ Below w.heap.size w w' := by
  have hmk := make_f32 n w hn
  have HA := Lib.hid hat; clear hat
  go_enter Try.func66, Try.ntmps66
  go_wp2
  go_loopw [11] (fun i wr => ∃ (k : Nat) (ys : List Nat), k ≤ n ∧ i = .int .i64 k ∧ FlNew w wr w.heap.size n k ys ∧ ys.length = n ∧ Hid (∀ j, j < k → canon .f32 (ys.getD j 0) = q j)) (fun i _ => n - (intOf i).toNat)
  case atStart => exact ⟨0, List.replicate n 0, Nat.zero_le _, rfl, FlNew.start .., by simp, Lib.hid (fun j hj => absurd hj (Nat.not_lt_zero j))⟩
  case round =>
    obtain ⟨k, ys, hk, rfl, hnew, hlen, hq⟩ := hrel
    clear hmk
    by_cases hlt : k < n
    · have hcall := HA.out k hlt _ hnew.1
      have HN := Lib.hid hnew; clear hnew
      have hwr : IntKind.i64.wrap ((k : Int) + 1) = (k : Int) + 1 := IntWalk.i64_in _ (by omega)
      go_wp2_with fail
      refine hcall.mono ?_
      rintro e w1 ⟨r, rfl, hr, b1⟩
      have hn1 := HN.out.below b1
      obtain ⟨hc2, hc3⟩ := hn1.2.2.2 k hlt
      rw [if_neg (by omega)] at hc2
      have hst := (hn1.congr (ys := ys.set k r) (fun j hj => by rw [getD_lset (by omega), if_neg (by omega)])).step hlt
      rw [getD_lset (by omega), if_pos rfl] at hst
      have HS := Lib.hid hst
      have HQ : Hid (∀ j, j < k + 1 → canon .f32 ((ys.set k r).getD j 0) = q j) := Lib.hid (fun j hj => by
        rw [getD_lset (by omega)]
        by_cases e : k = j
        · rw [if_pos e, hr, e]
        · rw [if_neg e]; exact hq.out j (by omega))
      clear hst hn1 hr b1 hcall
      go_wp2
      go_roundw
      case rel => exact ⟨k + 1, ys.set k r, by omega, by go_num, HS.out, by simp [hlen], HQ⟩
      case measure => simp [intOf]; omega
    · have HN := Lib.hid hnew; clear hnew
      have hkk : k = n := by omega
      subst hkk
      go_wp2
      go_ret
      exact ⟨_, ys, rfl, hlen, by subst hlen; exact HN.out.done (Nat.le_refl _), hq.out, HN.out.1⟩
set_option maxHeartbeats 4000000 in
set_option maxRecDepth 100000 in
theorem i_productsOf (A L : Option Addr) (cap cap' : Nat) (xs ys : List Nat) (w : World) (h : Fl w A xs) (h' : Fl w L ys) (hn : xs.length ≤ 1048576) (hl : xs.length ≤ ys.length) :
    Calls Try.prog 129 #[.slice A xs.length cap, .slice L ys.length cap'] w fun e w' => ∃ (Z : Option Addr) (zs : List Nat), e = .returned (.slice Z xs.length xs.length) ∧ zs.length = xs.length ∧ Fl w' Z zs ∧ (∀ k, k < xs.length → canon .f32 (zs.getD k 0) = prodAt xs ys k) ∧ Below w.heap.size w w' := by
  have HF := Lib.hid h; clear h
  have HG := Lib.hid h'; clear h'
  have HL := Lib.hid hl; clear hl
  obtain ⟨w2, hw2⟩ : ∃ w2, w2 = (w.alloc (.cells #[.slice A xs.length cap] 32)).alloc (.cells #[.slice L ys.length cap'] 32) := ⟨_, rfl⟩
  have K0 : Hid (BlkL w2 w.heap.size [.slice A xs.length cap]) := Lib.hid (by rw [hw2]; exact (blkL_at w #[.slice A xs.length cap] 32 rfl).alloc _)
  have K1 : Hid (BlkL w2 (w.heap.size + 1) [.slice L ys.length cap']) := Lib.hid (by rw [hw2]; exact blkL_at (w.alloc _) #[.slice L ys.length cap'] 32 (by simp))
  have B2 : Hid (Below w.heap.size w w2) := Lib.hid (by rw [hw2]; exact ((Below.refl _ _).alloc (Nat.le_refl _) _).alloc (by simp) _)
  go_enter Try.func129, Try.ntmps129
  go_wp2_with fail
  rw [← hw2]
  clear hw2
  refine (i_listOf_prod _ _ (prodAt xs ys) xs.length _ hn (fun k hk wr hb => (i_prodAt w.heap.size (w.heap.size + 1) k A L cap cap' xs ys wr (HF.out.below (below_of B2.out B2.out.size hb)) (HG.out.below (below_of B2.out B2.out.size hb)) ((K0.out.below hb).2 0 _ rfl).1 ((K1.out.below hb).2 0 _ rfl).1 hk (by have := HL.out; omega)).mono fun e w' ⟨r, he, hr, n, hw⟩ => ⟨r, he, hr, by rw [hw]; exact below_draws (Below.refl _ _) _⟩)).mono ?_
  rintro e w3 ⟨Z, zs, rfl, hlen, hfl, hq, b3⟩
  have B3 : Hid (Below w.heap.size w w3) := Lib.hid (below_of B2.out B2.out.size b3)
  have HZ := Lib.hid hfl
  have HQ := Lib.hid hq
  have HN := Lib.hid hlen
  clear b3 hfl hq hlen
  go_wp2
  go_ret
  exact ⟨_, zs, rfl, HN.out, HZ.out, HQ.out, B3.out⟩
set_option maxHeartbeats 4000000 in
set_option maxRecDepth 100000 in
theorem i_weightedMean (A L : Option Addr) (ca cl : Nat) (a l : List Nat) (w : World) (h : Fl w A a) (h' : Fl w L l) (hn : a.length ≤ 256) (hl : l.length = a.length) :
    Calls Try.prog 74 #[.slice L l.length cl, .slice A a.length ca] w fun e w' => ∃ r, e = .returned (.tuple #[.float .f32 r, .bool (fin .f32 (mrV a l))]) ∧ canon .f32 r = onlyN (mrV a l) ∧ Below w.heap.size w w' := by
  have HF := Lib.hid h; clear h
  have HG := Lib.hid h'; clear h'
  have HL := Lib.hid hl; clear hl
  go_enter Try.func74, Try.ntmps74
  go_wp2_with fail
  refine (i_sumOf A ca a _ HF.out hn).mono ?_
  rintro e w' ⟨rs, n1, rfl, hs, rfl⟩
  have HS := Lib.hid hs; clear hs
  go_wp2_with fail
  refine (i_productsOf A L ca cl a l _ (HF.out.draws _) (HG.out.draws _) (by omega) (by have := HL.out; omega)).mono ?_
  rintro e w3 ⟨Z, zs, rfl, hlen, hfl, hq, b3⟩
  have B3 : Hid (Below w.heap.size w w3) := Lib.hid (below_of (below_draws (Below.refl _ _) n1) (Nat.le_refl _) b3)
  have HQ : Hid (sumK zs zs.length = dotK a l a.length) := Lib.hid (by rw [hlen]; exact sumK_dot hq _ (Nat.le_refl _))
  have hl2 : zs.length ≤ 256 := by omega
  have HE : Hid (∀ cp b W, Fl W Z zs → Calls Try.prog 128 #[.slice Z a.length cp, .float .f32 b, .func (.func 130) #[] #[]] W fun e w' => ∃ r n, e = .returned (.float .f32 r) ∧ canon .f32 r = fop .quo .f32 (sumK zs zs.length) (canon .f32 b) ∧ w' = W.drewN n) := Lib.hid (by rw [← hlen]; exact fun cp b W hh => i_meanOf Z cp zs b W hh hl2)
  have HZ := Lib.hid hfl
  clear b3 hfl hq hlen hl2
  go_wp2_with fail
  refine (HE.out _ _ _ HZ.out).mono ?_
  rintro e w' ⟨r1, n2, rfl, h1, rfl⟩
  have H1 : Hid (canon .f32 r1 = mrV a l) := Lib.hid (by rw [h1, HQ.out, HS.out]; rfl)
  clear h1
  go_wp2_with fail
  refine (i_onlyFiniteC _ _ _ H1.out).mono ?_
  rintro e w' ⟨r3, n4, rfl, h3, rfl⟩
  have H3 := Lib.hid h3; clear h3
  go_wp2
  go_ret2
  exact ⟨_, rfl, H3.out, by repeat (first | exact B3.out | refine below_draws ?_ _)⟩
end Go.Proofs.Ytpmjikchlofebaa
