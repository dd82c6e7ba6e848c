/- Mixed roses: plain mathematics, and the program's closures. No statement is proved here. -/
import Derived.Test.YtahbcpjipomcgaaPgr
import Derived.Test.YtahbcpjipomcgaaRosN
namespace Go.Proofs.Ytahbcpjipomcgaa
open Go Go.RowKit
theorem BlkL.oneP {w : World} {B : Nat} {v0 : Value} (h : BlkL w B [v0]) : w.cell? ⟨B, 0, none⟩ = some v0 := (h.2 0 _ rfl).1
def mxV (x y s : Nat) : Nat := fop .add .f32 (canon .f32 x) (fop .mul .f32 (canon .f32 s) (fop .sub .f32 (canon .f32 y) (canon .f32 x)))
def mxL (xs ys : List Nat) (s : Nat) : List Nat := (List.range xs.length).map fun k => mxV (xs.getD k 0) (ys.getD k 0) s
theorem mxL_length (xs ys : List Nat) (s : Nat) : (mxL xs ys s).length = xs.length := by simp [mxL]
theorem mxL_at {xs ys : List Nat} {s k : Nat} (h : k < xs.length) : (mxL xs ys s).getD k 0 = mxV (xs.getD k 0) (ys.getD k 0) s := by simp [mxL, List.getD, h]
def mgO (a l b m : List Nat) (u : Nat) : Bool := rosV a l && (rosV b m && (decide (a.length = b.length) && (within u 0 1065353216 && rosV (mxL a b u) (mxL l m u))))
theorem mgO_a {a l b m : List Nat} {u : Nat} (h : rosV a l = false) : mgO a l b m u = false := by unfold mgO; rw [h]; rfl
theorem mgO_b {a l b m : List Nat} {u : Nat} (h : rosV b m = false) : mgO a l b m u = false := by unfold mgO; rw [h]; simp
theorem mgO_n {a l b m : List Nat} {u : Nat} (h : a.length ≠ b.length) : mgO a l b m u = false := by unfold mgO; rw [decide_eq_false h]; simp
theorem mgO_u {a l b m : List Nat} {u : Nat} (h : within u 0 1065353216 = false) : mgO a l b m u = false := by unfold mgO; rw [h]; simp
theorem mgO_yes {a l b m : List Nat} {u : Nat} (h1 : rosV a l = true) (h2 : rosV b m = true) (h3 : a.length = b.length) (h4 : within u 0 1065353216 = true) : mgO a l b m u = rosV (mxL a b u) (mxL l m u) := by unfold mgO; rw [h1, h2, decide_eq_true h3, h4]; rfl
theorem amountEqR {x x' : Nat} (h : canon .f32 x = canon .f32 x') : amount x = amount x' := by
  unfold amount geq32
  rw [fin_eqC h, order_eqC h rfl]
theorem amtsCLr {xs ys : List Nat} (h : CL xs ys) : ∀ k, k ≤ xs.length → amts xs k = amts ys k := by
  intro k; induction k with
  | zero => intro _; rfl
  | succ k ih => intro hk; simp only [amts, ih (by omega), amountEqR (h.2 k (by omega))]
theorem rosV_CL {a a' l l' : List Nat} (h1 : CL a a') (h2 : CL l l') : rosV a l = rosV a' l' := by
  unfold rosV
  rw [amtsCLr h1 _ (Nat.le_refl _), amtsCLr h2 _ (Nat.le_refl _), h1.1, h2.1]
  congr 1
  exact decide_eq_decide.2 (by unfold sizedS; rw [h1.1, h2.1])
theorem amtsIsnR {xs : List Nat} (h : amts xs xs.length = true) : ∀ k, k < xs.length → isn .f32 (xs.getD k 0) = false := fun k hk => by
  have := amts_at h k hk
  unfold amount at this
  rw [Bool.and_eq_true] at this
  exact isn_of_fin this.1
/-- what was made is what is told, where it is a rose -/
theorem mx_is {a l b m ys zs : List Nat} {u : Nat} (h1 : CL ys (mxL a b u)) (h2 : CL zs (mxL l m u)) (hv : rosV ys zs = true) : ys = mxL a b u ∧ zs = mxL l m u :=
  ⟨h1.eq (amtsIsnR (rosV_amts hv).1), h2.eq (amtsIsnR (rosV_amts hv).2)⟩
theorem mg_few (a l b m : List Nat) (u : Nat) : FewS (gLn (mgO a l b m u) (mxL a b u)) (gLn (mgO a l b m u) (mxL l m u)) := by
  cases h : mgO a l b m u
  · simp [gLn, FewS]
  · have hr : rosV (mxL a b u) (mxL l m u) = true := by unfold mgO at h; simp only [Bool.and_eq_true] at h; exact h.2.2.2.2
    obtain ⟨s1, s2, s3⟩ := rosV_sized hr
    simp only [gLn, if_true, FewS]
    omega
theorem i_betweenM (a b s : Nat) (w : World) :
    Calls Try.prog 35 #[.float .f32 a, .float .f32 b, .float .f32 s] w fun e w' => ∃ r n, e = .returned (.float .f32 r) ∧ canon .f32 r = fop .add .f32 (canon .f32 a) (fop .mul .f32 (canon .f32 s) (fop .sub .f32 (canon .f32 b) (canon .f32 a))) ∧ w' = w.drewN n := by
  go_enter Try.func35, Try.ntmps35
  go_wp2_with fail
  refine (i_mulNumbers _ _ _).mono ?_
  rintro e w' ⟨rfl, rfl⟩
  go_wp2
  go_ret
  exact ⟨_, _, rfl, by simp only [canon_fopV], rfl⟩
set_option maxHeartbeats 8000000 in
theorem i_mixedAt (B B' Bs k n n' cap cap' s : Nat) (A A' : Option Addr) (xs ys : List Nat) (w : World) (h : Fl w A xs) (h' : Fl w A' ys) (hl : xs.length = n) (hl' : ys.length = n') (k0 : w.cell? ⟨B, 0, none⟩ = some (.slice A n cap)) (k1 : w.cell? ⟨B', 0, none⟩ = some (.slice A' n' cap')) (k2 : w.cell? ⟨Bs, 0, none⟩ = some (.float .f32 s)) (hk : k < n) (hk' : k < n') :
    Calls Try.prog 34 #[.int .i64 k, .pointer (some ⟨B, 0, none⟩), .pointer (some ⟨B', 0, none⟩), .pointer (some ⟨Bs, 0, none⟩)] w fun e w' => ∃ r, e = .returned (.float .f32 r) ∧ canon .f32 r = mxV (xs.getD k 0) (ys.getD k 0) s ∧ ∃ n, w' = w.drewN n := by
  obtain ⟨b, off, rfl, -, hc⟩ := h.at_ (show k < xs.length by omega)
  obtain ⟨b', off', rfl, -, hc'⟩ := h'.at_ (show k < ys.length by omega)
  generalize xs.getD k 0 = x at hc ⊢
  generalize ys.getD k 0 = y at hc' ⊢
  clear h hl h' hl'
  have hdd : ∀ nn j, ∃ mm, (w.drewN nn).drewN j = w.drewN mm := fun nn j => ⟨nn + j, World.drewN_drewN ..⟩
  go_enter Try.func34, Try.ntmps34
  go_wp2_with fail
  refine wp_region_inv3 (fun iq v => match iq with
    | 0 => v = .slice (some ⟨b, off, none⟩) n cap
    | 1 => v = .int .i64 k
    | 2 => v = .pointer (some ⟨b, off + k, none⟩)
    | 3 => v = .float .f32 x
    | 4 => v = .slice (some ⟨b', off', none⟩) n' cap'
    | 5 => v = .int .i64 k
    | 6 => v = .pointer (some ⟨b', off' + k, none⟩)
    | 7 => v = .float .f32 y
    | 8 => v = .float .f32 s
    | 9 => ∃ r, v = .float .f32 r ∧ canon .f32 r = mxV x y s
    | 10 => ∃ r, v = .float .f32 r ∧ canon .f32 r = mxV x y s
    | _ => False) (fun _ ww => ∃ nn, ww = w.drewN nn) (by kernel_rfl) (by kernel_rfl) ⟨1, rfl⟩ ?hop ?hend
  case hop =>
    intro q o hq listed act w3 hI hnot hcl hall
    obtain ⟨nn, rfl⟩ := hI.cls
    rcases q with _ | _ | _ | _ | _ | _ | _ | _ | _ | _ | _ | q
    · simp at hq; subst hq
      have g1 : act.tmps[1]?.getD undef = .pointer (some ⟨B, 0, none⟩) := hI.kept 1 (by kernel_rfl)
      clear hI hall hnot hcl
      refine .inl ⟨wanted_none rfl, ?_⟩
      unfold Oper.wp
      go_simp
      all_goals exact ⟨_, rfl, rfl, ⟨_, rfl⟩⟩
    · simp at hq; subst hq
      have g0 : act.tmps[0]?.getD undef = .int .i64 k := hI.kept 0 (by kernel_rfl)
      clear hI hall hnot hcl
      refine .inl ⟨wanted_none rfl, ?_⟩
      unfold Oper.wp
      go_simp
      all_goals exact ⟨_, rfl, rfl, ⟨_, rfl⟩⟩
    · simp at hq; subst hq
      have g6 : act.tmps[6]?.getD undef = .slice (some ⟨b, off, none⟩) n cap := hI.has 0 6 rfl (hall ⟨0, .data⟩ (by simp) rfl)
      have g7 : act.tmps[7]?.getD undef = .int .i64 k := hI.has 1 7 rfl (hall ⟨1, .data⟩ (by simp) rfl)
      clear hI hall hnot hcl
      refine .inl ⟨wanted_none rfl, ?_⟩
      unfold Oper.wp
      go_simp
      all_goals exact ⟨_, rfl, rfl, ⟨_, rfl⟩⟩
    · simp at hq; subst hq
      have g8 : act.tmps[8]?.getD undef = .pointer (some ⟨b, off + k, none⟩) := hI.has 2 8 rfl (hall ⟨2, .data⟩ (by simp) rfl)
      clear hI hall hnot hcl
      refine .inl ⟨wanted_none rfl, ?_⟩
      unfold Oper.wp
      go_simp
      all_goals exact ⟨_, rfl, rfl, ⟨_, rfl⟩⟩
    · simp at hq; subst hq
      have g2 : act.tmps[2]?.getD undef = .pointer (some ⟨B', 0, none⟩) := hI.kept 2 (by kernel_rfl)
      clear hI hall hnot hcl
      refine .inl ⟨wanted_none rfl, ?_⟩
      unfold Oper.wp
      go_simp
      all_goals exact ⟨_, rfl, rfl, ⟨_, rfl⟩⟩
    · simp at hq; subst hq
      have g0 : act.tmps[0]?.getD undef = .int .i64 k := hI.kept 0 (by kernel_rfl)
      clear hI hall hnot hcl
      refine .inl ⟨wanted_none rfl, ?_⟩
      unfold Oper.wp
      go_simp
      all_goals exact ⟨_, rfl, rfl, ⟨_, rfl⟩⟩
    · simp at hq; subst hq
      have g10 : act.tmps[10]?.getD undef = .slice (some ⟨b', off', none⟩) n' cap' := hI.has 4 10 rfl (hall ⟨4, .data⟩ (by simp) rfl)
      have g11 : act.tmps[11]?.getD undef = .int .i64 k := hI.has 5 11 rfl (hall ⟨5, .data⟩ (by simp) rfl)
      clear hI hall hnot hcl
      refine .inl ⟨wanted_none rfl, ?_⟩
      unfold Oper.wp
      go_simp
      all_goals exact ⟨_, rfl, rfl, ⟨_, rfl⟩⟩
    · simp at hq; subst hq
      have g12 : act.tmps[12]?.getD undef = .pointer (some ⟨b', off' + k, none⟩) := hI.has 6 12 rfl (hall ⟨6, .data⟩ (by simp) rfl)
      clear hI hall hnot hcl
      refine .inl ⟨wanted_none rfl, ?_⟩
      unfold Oper.wp
      go_simp
      all_goals exact ⟨_, rfl, rfl, ⟨_, rfl⟩⟩
    · simp at hq; subst hq
      have g3 : act.tmps[3]?.getD undef = .pointer (some ⟨Bs, 0, none⟩) := hI.kept 3 (by kernel_rfl)
      clear hI hall hnot hcl
      refine .inl ⟨wanted_none rfl, ?_⟩
      unfold Oper.wp
      go_simp
      all_goals exact ⟨_, rfl, rfl, ⟨_, rfl⟩⟩
    · simp at hq; subst hq
      have g9 : act.tmps[9]?.getD undef = .float .f32 x := hI.has 3 9 rfl (hall ⟨3, .data⟩ (by simp) rfl)
      have g13 : act.tmps[13]?.getD undef = .float .f32 y := hI.has 7 13 rfl (hall ⟨7, .data⟩ (by simp) rfl)
      have g14 : act.tmps[14]?.getD undef = .float .f32 s := hI.has 8 14 rfl (hall ⟨8, .data⟩ (by simp) rfl)
      clear hI hall hnot hcl
      refine .inl ⟨wanted_none rfl, ?_⟩
      unfold Oper.wp
      go_simp
      refine (i_betweenM _ _ _ _).mono ?_
      rintro e w4 ⟨r, n, rfl, hr, rfl⟩
      exact ⟨_, rfl, ⟨_, rfl, hr⟩, by first | exact ⟨_, rfl⟩ | exact hdd _ _⟩
    · simp at hq; subst hq
      obtain ⟨r9, g15, h9a⟩ := hI.has 9 15 rfl (hall ⟨9, .data⟩ (by simp) rfl)
      clear hI hall hnot hcl
      refine .inl ⟨wanted_none rfl, ?_⟩
      unfold Oper.wp
      go_simp
      exact ⟨_, rfl, ⟨_, rfl, h9a⟩, ⟨_, rfl⟩⟩
    · simp at hq
  case hend =>
    intro listed act w3 hI hall
    obtain ⟨nn, rfl⟩ := hI.cls
    obtain ⟨rq, g5, hrq⟩ := hI.has 10 5 rfl (hall 10 (by decide))
    have hd := hI.defers
    clear hI hall
    go_wp2
    refine bodyPost_ret (v := .float .f32 rq) (by simp [results, Try.results34, g5, go_sem]) (by first | rfl | exact hd) ⟨rq, rfl, hrq, nn, rfl⟩
set_option maxHeartbeats 4000000 in
set_option maxRecDepth 100000 in
theorem i_listOf_mxp (c0 c1 c2 : Value) (q : Nat → Nat) (n : Nat) (w : World) (hn : n ≤ 1048576)
    (hat : ∀ k, k < n → ∀ wr, Below w.heap.size w wr → Calls Try.prog 34 #[.int .i64 k, c0, c1, c2] wr fun e w' => ∃ r, e = .returned (.float .f32 r) ∧ canon .f32 r = q k ∧ Below wr.heap.size wr w') :
    Calls Try.prog 33 #[.int .i64 n, .func (.func 34) #[] #[c0, c1, c2]] w fun e w' => ∃ (A : Option Addr) (xs : List Nat), e = .returned (.slice A n n) ∧ xs.length = n ∧ Fl w' A xs ∧ (∀ k, k < n → canon .f32 (xs.getD k 0) = q k) ∧ Below w.heap.size w w' ∧ A = some ⟨w.heap.size, 0, none⟩ ∧ Own w' w.heap.size xs := by
  have hmk := make_f32 n w hn
  have HA := Lib.hid hat; clear hat
  go_enter Try.func33, Try.ntmps33
  go_wp2
  go_loopw [11] (fun i wr => ∃ (k : Nat) (ys : List Nat), k ≤ n ∧ i = .int .i64 k ∧ FlNew w wr w.heap.size n k ys ∧ ys.length = n ∧ Hid (∀ j, j < k → canon .f32 (ys.getD j 0) = q j)) (fun i _ => n - (intOf i).toNat)
  case atStart => exact ⟨0, List.replicate n 0, Nat.zero_le _, rfl, FlNew.start .., by simp, Lib.hid (fun j hj => absurd hj (Nat.not_lt_zero j))⟩
  case round =>
    obtain ⟨k, ys, hk, rfl, hnew, hlen, hq⟩ := hrel
    clear hmk
    by_cases hlt : k < n
    · have hcall := HA.out k hlt _ hnew.1
      have HN := Lib.hid hnew; clear hnew
      have hwr : IntKind.i64.wrap ((k : Int) + 1) = (k : Int) + 1 := IntWalk.i64_in _ (by omega)
      go_wp2_with fail
      refine hcall.mono ?_
      rintro e w1 ⟨r, rfl, hr, b1⟩
      have hn1 := HN.out.below b1
      obtain ⟨hc2, hc3⟩ := hn1.2.2.2 k hlt
      rw [if_neg (by omega)] at hc2
      have hst := (hn1.congr (ys := ys.set k r) (fun j hj => by rw [getD_lset (by omega), if_neg (by omega)])).step hlt
      rw [getD_lset (by omega), if_pos rfl] at hst
      have HS := Lib.hid hst
      have HQ : Hid (∀ j, j < k + 1 → canon .f32 ((ys.set k r).getD j 0) = q j) := Lib.hid (fun j hj => by
        rw [getD_lset (by omega)]
        by_cases e : k = j
        · rw [if_pos e, hr, e]
        · rw [if_neg e]; exact hq.out j (by omega))
      clear hst hn1 hr b1 hcall
      go_wp2
      go_roundw
      case rel => exact ⟨k + 1, ys.set k r, by omega, by go_num, HS.out, by simp [hlen], HQ⟩
      case measure => simp [intOf]; omega
    · have HN := Lib.hid hnew; clear hnew
      have hkk : k = n := by omega
      subst hkk
      go_wp2
      go_ret
      exact ⟨_, ys, rfl, hlen, by subst hlen; exact HN.out.done (Nat.le_refl _), hq.out, HN.out.1, rfl, by subst hlen; exact Own.of_new HN.out (Nat.le_refl _)⟩
set_option maxHeartbeats 4000000 in
theorem i_mixed (A A' : Option Addr) (n n' cap cap' s Bs : Nat) (xs ys : List Nat) (w : World) (h : Fl w A xs) (h' : Fl w A' ys) (hn : xs.length ≤ 1048576) (hl : ys.length = xs.length) (hl2 : xs.length = n) (hnn : n' = n) (ks : BlkL w Bs [.float .f32 s]) :
    Calls Try.prog 32 #[.slice A n cap, .slice A' n' cap', .pointer (some ⟨Bs, 0, none⟩)] w fun e w' => ∃ c g zs, e = .returned (.slice (some ⟨g, 0, none⟩) zs.length c) ∧ Own w' g zs ∧ w.heap.size ≤ g ∧ CL zs (mxL xs ys s) ∧ Below w.heap.size w w' := by
  subst hnn
  subst hl2
  have HF := Lib.hid h; clear h
  have HF' := Lib.hid h'; clear h'
  have HL := Lib.hid hl; clear hl
  obtain ⟨w0, hw0⟩ : ∃ w0, w0 = (w.alloc (.cells #[.slice A xs.length cap] 22)).alloc (.cells #[.slice A' xs.length cap'] 22) := ⟨_, rfl⟩
  have B0 : Hid (Below w.heap.size w w0) := Lib.hid (by rw [hw0]; exact ((Below.refl _ _).alloc (Nat.le_refl _) _).alloc (by simp) _)
  have K0 : Hid (BlkL w0 w.heap.size [.slice A xs.length cap]) := Lib.hid (by rw [hw0]; exact (blkL_at w #[.slice A xs.length cap] _ rfl).alloc _)
  have K1 : Hid (BlkL w0 (w.heap.size + 1) [.slice A' xs.length cap']) := Lib.hid (by rw [hw0]; exact blkL_at (w.alloc _) #[.slice A' xs.length cap'] _ (by simp))
  have K2 : Hid (BlkL w0 Bs [.float .f32 s]) := Lib.hid (ks.below B0.out)
  clear ks
  go_enter Try.func32, Try.ntmps32
  go_wp2_with fail
  rw [← hw0]
  clear hw0
  refine (i_listOf_mxp _ _ _ (fun k => mxV (xs.getD k 0) (ys.getD k 0) s) xs.length _ hn (fun k hk wr hb => (i_mixedAt w.heap.size (w.heap.size + 1) Bs k xs.length xs.length cap cap' s A A' xs ys wr (HF.out.below (below_of B0.out B0.out.size hb)) (HF'.out.below (below_of B0.out B0.out.size hb)) rfl HL.out (K0.out.below hb).oneP (K1.out.below hb).oneP (K2.out.below hb).oneP hk hk).mono fun e w' ⟨r, he, hr, n, hw⟩ => ⟨r, he, hr, by rw [hw]; exact below_draws (Below.refl _ _) _⟩)).mono ?_
  rintro e w5 ⟨Y, zs, rfl, hlen, -, hq, b3, rfl, hown⟩
  have HR : Hid (Own w5 w0.heap.size zs ∧ w.heap.size ≤ w0.heap.size ∧ CL zs (mxL xs ys s) ∧ Below w.heap.size w w5) := Lib.hid ⟨hown, B0.out.size, CL.of_canon hlen (mxL_length ..) hq (fun k hk => by rw [mxL_at hk]; exact canon_fop ..), below_of B0.out B0.out.size b3⟩
  have HLZ := Lib.hid hlen
  clear hown hq b3 hlen
  go_wp2
  go_ret
  obtain ⟨r1, r2, r3, r4⟩ := HR.out
  exact ⟨xs.length, _, zs, by rw [HLZ.out]; rfl, r1, r2, r3, r4⟩
/-- a rose is given where it is one -/
theorem i_GiveR (A L : Option Addr) (ca cl : Nat) (a l : List Nat) (w : World) (h : Rs w A L a l) (hn : FewS a l) :
    Calls Try.prog 36 #[.agg #[.slice A a.length ca, .slice L l.length cl]] w fun e w' => ∃ (R1 R2 : Option Addr) (n1 n2 d1 d2 : Nat) (v : Bool), e = .returned (.tuple #[.agg #[.slice R1 n1 d1, .slice R2 n2 d2], .bool v]) ∧ Hid (v = rosV a l ∧ (v = true → R1 = A ∧ R2 = L ∧ n1 = a.length ∧ n2 = l.length) ∧ (v = false → n1 = 0 ∧ n2 = 0)) ∧ Below w.heap.size w w' := by
  cases hv : rosV a l
  · refine (i_GiveR_no A L ca cl a l w h hn hv).mono ?_
    rintro e w' ⟨rfl, b⟩
    exact ⟨none, none, 0, 0, 0, 0, false, rfl, Lib.hid ⟨rfl, (fun h => by cases h), fun _ => ⟨rfl, rfl⟩⟩, b⟩
  · refine (i_GiveR_yes A L ca cl a l w h hn hv).mono ?_
    rintro e w' ⟨rfl, b⟩
    exact ⟨A, L, a.length, l.length, ca, cl, true, rfl, Lib.hid ⟨rfl, fun _ => ⟨rfl, rfl, rfl, rfl⟩, (fun h => by cases h)⟩, b⟩
end Go.Proofs.Ytahbcpjipomcgaa
