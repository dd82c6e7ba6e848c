/- Means of some winds: both sides. No statement is proved here. -/
import Derived.Test.YteligfbbofgonaaSpr
import Derived.Test.YteligfbbofgonaaApp
namespace Go.Proofs.Yteligfbbofgonaa
open Go Go.RowKit
/-- m numbers from the i-th one on -/
def subV (xs : List Nat) (i m : Nat) : List Nat := (xs.drop i).take m
theorem subV_length {xs : List Nat} {i m : Nat} (h : i + m ≤ xs.length) : (subV xs i m).length = m := by simp [subV]; omega
theorem subV_at {xs : List Nat} {i m k : Nat} (hk : k < m) : (subV xs i m).getD k 0 = xs.getD (i + k) 0 := by
  simp [subV, List.getD, List.getElem?_take, hk]
theorem Fl.sub {w : World} {b off : Nat} {xs : List Nat} (h : Fl w (some ⟨b, off, none⟩) xs) {i m : Nat} (hm : i + m ≤ xs.length) : Fl w (some ⟨b, off + i, none⟩) (subV xs i m) := by
  rcases h with h | ⟨b', off', e, hlt, hc⟩
  · subst h; left; simp [subV]
  · simp only [Option.some.injEq, Addr.mk.injEq] at e
    obtain ⟨rfl, rfl, -⟩ := e
    refine .inr ⟨_, _, rfl, hlt, fun k hk => ?_⟩
    rw [subV_length hm] at hk
    rw [subV_at hk, show off + i + k = off + (i + k) by omega]
    exact hc _ (by omega)
def smV (xs : List Nat) (m i : Nat) : Nat := meanV (subV xs i m)
def smN (xs : List Nat) (m : Int) : Nat := xs.length - m.toNat + 1
def smO (xs : List Nat) (m : Int) : Bool := winV xs && (decide (1 ≤ m ∧ m ≤ (xs.length : Int)) && alls (fun i => fin .f32 (smV xs m.toNat i)) (smN xs m))
def smL (xs : List Nat) (m : Int) : List Nat := if smO xs m then (List.range (smN xs m)).map (smV xs m.toNat) else []
theorem smO_w {xs : List Nat} {m : Int} (h : winV xs = false) : smO xs m = false := by unfold smO; rw [h]; rfl
theorem smO_m {xs : List Nat} {m : Int} (h : ¬ (1 ≤ m ∧ m ≤ (xs.length : Int))) : smO xs m = false := by unfold smO; rw [decide_eq_false h]; simp
theorem smO_a {xs : List Nat} {m : Int} (h : alls (fun i => fin .f32 (smV xs m.toNat i)) (smN xs m) = false) : smO xs m = false := by unfold smO; rw [h]; simp
theorem smO_yes {xs : List Nat} {m : Int} (h1 : winV xs = true) (h2 : 1 ≤ m ∧ m ≤ (xs.length : Int)) (h3 : alls (fun i => fin .f32 (smV xs m.toNat i)) (smN xs m) = true) : smO xs m = true := by unfold smO; rw [h1, decide_eq_true h2, h3]; rfl
theorem smO_parts {xs : List Nat} {m : Int} (h : smO xs m = true) : winV xs = true ∧ (1 ≤ m ∧ m ≤ (xs.length : Int)) ∧ alls (fun i => fin .f32 (smV xs m.toNat i)) (smN xs m) = true := by
  unfold smO at h; simp only [Bool.and_eq_true] at h; exact ⟨h.1, of_decide_eq_true h.2.1, h.2.2⟩
theorem smL_no {xs : List Nat} {m : Int} (h : smO xs m = false) : smL xs m = [] := by unfold smL; rw [h]; rfl
theorem smL_yes {xs : List Nat} {m : Int} (h : smO xs m = true) : smL xs m = (List.range (smN xs m)).map (smV xs m.toNat) := by unfold smL; rw [h]; rfl
theorem smL_len {xs : List Nat} {m : Int} (h : smO xs m = true) : (smL xs m).length = smN xs m := by rw [smL_yes h]; simp
theorem smL_few (xs : List Nat) (m : Int) (h : xs.length ≤ 1048576) : (smL xs m).length ≤ 1048576 := by
  cases ho : smO xs m
  · rw [smL_no ho]; simp
  · rw [smL_len ho]
    obtain ⟨-, h2, -⟩ := smO_parts ho
    unfold smN; omega
theorem fins_alls {ys : List Nat} {q : Nat → Nat} {n : Nat} (h : ∀ k, k < n → canon .f32 (ys.getD k 0) = q k) : ∀ k, k ≤ n → fins ys k = alls (fun i => fin .f32 (q i)) k := by
  intro k; induction k with
  | zero => intro _; rfl
  | succ k ih => intro hk; simp only [fins, alls, ih (by omega)]; rw [← h k (by omega), fin_canon]
set_option maxHeartbeats 4000000 in
theorem i_smAt (B B' j m : Nat) (A : Option Addr) (cap : Nat) (xs : List Nat) (w : World) (h : Fl w A xs) (hk : w.cell? ⟨B, 0, none⟩ = some (.slice A xs.length cap)) (hk' : w.cell? ⟨B', 0, none⟩ = some (.int .i64 m)) (hj : j + m ≤ xs.length) (hm : 1 ≤ m) (hcap : xs.length ≤ cap) (hn : xs.length ≤ 256) :
    Calls Try.prog 78 #[.int .i64 j, .pointer (some ⟨B, 0, none⟩), .pointer (some ⟨B', 0, none⟩)] w fun e w' => ∃ r, e = .returned (.float .f32 r) ∧ canon .f32 r = smV xs m j ∧ ∃ n, w' = w.drewN n := by
  obtain ⟨b, off, rfl, hb, hc⟩ := h.at_ (show 0 < xs.length by omega)
  have HS := Lib.hid (h.sub hj)
  have HL : Hid ((subV xs j m).length = m) := Lib.hid (subV_length hj)
  have H256 : Hid ((subV xs j m).length ≤ 256) := Lib.hid (by rw [subV_length hj]; omega)
  clear h hb hc
  have e1 : IntKind.i64.wrap ((j : Int) + (m : Int)) = ((j + m : Nat) : Int) := by rw [IntWalk.i64_in _ (by omega)]; omega
  have HE : Hid (∀ cp W, Fl W (some ⟨b, off + j, none⟩) (subV xs j m) → Calls Try.prog 69 #[.slice (some ⟨b, off + j, none⟩) m cp] W fun e w' => ∃ r n, e = .returned (.float .f32 r) ∧ canon .f32 r = meanV (subV xs j m) ∧ w' = W.drewN n) := Lib.hid (fun cp W hh => by
    have := i_evenMean (some ⟨b, off + j, none⟩) cp (subV xs j m) W hh H256.out
    rw [HL.out] at this
    exact this)
  go_enter Try.func78, Try.ntmps78
  go_wp2_with fail
  refine (HE.out _ _ HS.out).mono ?_
  rintro e w' ⟨r, n, rfl, hr, rfl⟩
  have HR := Lib.hid hr; clear hr
  go_wp2
  go_ret
  exact ⟨r, rfl, HR.out, n, rfl⟩
set_option maxHeartbeats 4000000 in
set_option maxRecDepth 100000 in
theorem i_listOf_sm (c0 c1 : Value) (q : Nat → Nat) (n : Nat) (w : World) (hn : n ≤ 1048576)
    (hat : ∀ k, k < n → ∀ wr, Below w.heap.size w wr → Calls Try.prog 78 #[.int .i64 k, c0, c1] wr fun e w' => ∃ r, e = .returned (.float .f32 r) ∧ canon .f32 r = q k ∧ Below wr.heap.size wr w') :
    Calls Try.prog 71 #[.int .i64 n, .func (.func 78) #[] #[c0, c1]] w fun e w' => ∃ (A : Option Addr) (xs : List Nat), e = .returned (.slice A n n) ∧ xs.length = n ∧ Fl w' A xs ∧ (∀ k, k < n → canon .f32 (xs.getD k 0) = q k) ∧ Below w.heap.size w w' ∧ A = some ⟨w.heap.size, 0, none⟩ ∧ Own w' w.heap.size xs := by
  have hmk := make_f32 n w hn
  have HA := Lib.hid hat; clear hat
  go_enter Try.func71, Try.ntmps71
  go_wp2
  go_loopw [11] (fun i wr => ∃ (k : Nat) (ys : List Nat), k ≤ n ∧ i = .int .i64 k ∧ FlNew w wr w.heap.size n k ys ∧ ys.length = n ∧ Hid (∀ j, j < k → canon .f32 (ys.getD j 0) = q j)) (fun i _ => n - (intOf i).toNat)
  case atStart => exact ⟨0, List.replicate n 0, Nat.zero_le _, rfl, FlNew.start .., by simp, Lib.hid (fun j hj => absurd hj (Nat.not_lt_zero j))⟩
  case round =>
    obtain ⟨k, ys, hk, rfl, hnew, hlen, hq⟩ := hrel
    clear hmk
    by_cases hlt : k < n
    · have hcall := HA.out k hlt _ hnew.1
      have HN := Lib.hid hnew; clear hnew
      have hwr : IntKind.i64.wrap ((k : Int) + 1) = (k : Int) + 1 := IntWalk.i64_in _ (by omega)
      go_wp2_with fail
      refine hcall.mono ?_
      rintro e w1 ⟨r, rfl, hr, b1⟩
      have hn1 := HN.out.below b1
      obtain ⟨hc2, hc3⟩ := hn1.2.2.2 k hlt
      rw [if_neg (by omega)] at hc2
      have hst := (hn1.congr (ys := ys.set k r) (fun j hj => by rw [getD_lset (by omega), if_neg (by omega)])).step hlt
      rw [getD_lset (by omega), if_pos rfl] at hst
      have HS := Lib.hid hst
      have HQ : Hid (∀ j, j < k + 1 → canon .f32 ((ys.set k r).getD j 0) = q j) := Lib.hid (fun j hj => by
        rw [getD_lset (by omega)]
        by_cases e : k = j
        · rw [if_pos e, hr, e]
        · rw [if_neg e]; exact hq.out j (by omega))
      clear hst hn1 hr b1 hcall
      go_wp2
      go_roundw
      case rel => exact ⟨k + 1, ys.set k r, by omega, by go_num, HS.out, by simp [hlen], HQ⟩
      case measure => simp [intOf]; omega
    · have HN := Lib.hid hnew; clear hnew
      have hkk : k = n := by omega
      subst hkk
      go_wp2
      go_ret
      exact ⟨_, ys, rfl, hlen, by subst hlen; exact HN.out.done (Nat.le_refl _), hq.out, HN.out.1, rfl, by subst hlen; exact Own.of_new HN.out (Nat.le_refl _)⟩
set_option maxHeartbeats 8000000 in
set_option maxRecDepth 100000 in
theorem i_SmoothWinds (A : Option Addr) (cap : Nat) (xs : List Nat) (m : Int) (w : World) (h : Fl w A xs) (hn : xs.length ≤ 1048576) (hcap : xs.length ≤ cap) :
    Calls Try.prog 38 #[.slice A xs.length cap, .int .i64 m] w fun e w' => ∃ A' c b, e = .returned (.tuple #[.slice A' (smL xs m).length c, .bool (smO xs m)]) ∧ OwnO w' w.heap.size A' b (smL xs m) ∧ Below w.heap.size w w' := by
  have HF := Lib.hid h; clear h
  have HC := Lib.hid hcap; clear hcap
  have HB : ∀ o1, Hid (Below w.heap.size w (w.alloc o1)) := fun _ => Lib.hid ((Below.refl _ _).alloc (Nat.le_refl _) _)
  go_enter Try.func38, Try.ntmps38
  go_wp2_with fail
  refine (i_areWinds A cap xs _ (HF.out.below (HB _).out) hn).mono ?_
  rintro e w' ⟨rfl, n1, rfl⟩
  cases v : winV xs
  · have HN := Lib.hid (smO_w (m := m) v); clear v
    go_wp2
    go_ret2
    exact ⟨none, 0, 0, by rw [HN.out, smL_no HN.out]; rfl, .inl (smL_no HN.out), below_draws (HB _).out _⟩
  · have V := Lib.hid v
    obtain ⟨h1, h256⟩ := winV_len v
    clear v
    by_cases hm1 : 1 ≤ m
    · by_cases hm2 : m ≤ (xs.length : Int)
      · obtain ⟨M, rfl⟩ : ∃ M : Nat, m = M := ⟨m.toNat, by omega⟩
        obtain ⟨w2, hw2⟩ : ∃ w2, w2 = ((w.alloc (.cells #[.slice A xs.length cap] 41)).drewN n1).alloc (.cells #[.int .i64 M] 3) := ⟨_, rfl⟩
        have K0 : Hid (BlkL w2 w.heap.size [.slice A xs.length cap]) := Lib.hid (by rw [hw2]; exact ((blkL_at w #[.slice A xs.length cap] 41 rfl).draws n1).alloc _)
        have K1 : Hid (BlkL w2 (w.heap.size + 1) [.int .i64 M]) := Lib.hid (by rw [hw2]; exact blkL_at (World.drewN _ n1) #[.int .i64 M] 3 (by show w.heap.size + 1 = (w.alloc _).heap.size; simp))
        have B2 : Hid (Below w.heap.size w w2) := Lib.hid (by rw [hw2]; exact (below_draws (HB _).out n1).alloc (by show w.heap.size ≤ (w.alloc _).heap.size; simp) _)
        have e1 : IntKind.i64.wrap ((xs.length : Int) - (M : Int)) = ((xs.length - M : Nat) : Int) := by rw [IntWalk.i64_in _ (by omega)]; omega
        have e2 : IntKind.i64.wrap (((xs.length - M : Nat) : Int) + 1) = ((xs.length - M + 1 : Nat) : Int) := by rw [IntWalk.i64_in _ (by omega)]; omega
        have hN : smN xs M = xs.length - M + 1 := by unfold smN; simp
        have HN := Lib.hid hN; clear hN
        go_wp2_with fail
        rw [← hw2]
        clear hw2
        refine (i_listOf_sm _ _ (smV xs M) (xs.length - M + 1) _ (by omega) (fun k hk wr hb => (i_smAt w.heap.size (w.heap.size + 1) k M A cap xs wr (HF.out.below (below_of B2.out B2.out.size hb)) ((K0.out.below hb).2 0 _ rfl).1 ((K1.out.below hb).2 0 _ rfl).1 (by omega) (by omega) HC.out h256).mono fun e w' ⟨r, he, hr, n, hw⟩ => ⟨r, he, hr, by rw [hw]; exact below_draws (Below.refl _ _) _⟩)).mono ?_
        rintro e w3 ⟨Y, ys, rfl, hlen, -, hq, b3, rfl, hown⟩
        have B3 : Hid (Below w.heap.size w w3) := Lib.hid (below_of B2.out B2.out.size b3)
        have HO : Hid (OwnO w3 w.heap.size (some ⟨w2.heap.size, 0, none⟩) w2.heap.size ys) := Lib.hid (.inr ⟨rfl, B2.out.size, hown⟩)
        have HA : Hid (fins ys ys.length = alls (fun i => fin .f32 (smV xs M i)) (smN xs M)) := Lib.hid (by rw [hlen, HN.out]; exact fins_alls hq _ (Nat.le_refl _))
        have HQ := Lib.hid hq
        have HL := Lib.hid hlen
        have HE : Hid (∀ cp W, Fl W (some ⟨w2.heap.size, 0, none⟩) ys → Calls Try.prog 79 #[.slice (some ⟨w2.heap.size, 0, none⟩) (xs.length - M + 1) cp, .func (.func 80) #[] #[]] W fun e w' => ∃ n, e = .returned (.bool (!fins ys ys.length)) ∧ w' = W.drewN n) := Lib.hid (by rw [← hlen]; exact fun cp W hh => i_hasInfinite _ cp ys W hh (by omega))
        clear b3 hown hq hlen e1 e2
        go_wp2_with fail
        refine (HE.out _ _ HO.out.fl).mono ?_
        rintro e w' ⟨n2, rfl, rfl⟩
        cases pf : fins ys ys.length
        · have HN2 : Hid (smO xs (M : Int) = false) := Lib.hid (smO_a (by rw [show ((M : Int)).toNat = M from rfl, ← HA.out, pf]))
          clear pf
          go_wp2
          go_ret2
          exact ⟨none, 0, 0, by rw [HN2.out, smL_no HN2.out]; rfl, .inl (smL_no HN2.out), below_draws B3.out _⟩
        · have HY : Hid (smO xs (M : Int) = true) := Lib.hid (smO_yes V.out ⟨hm1, hm2⟩ (by rw [show ((M : Int)).toNat = M from rfl, ← HA.out, pf]))
          have HYS : Hid (ys = smL xs (M : Int)) := Lib.hid (by
            rw [smL_yes HY.out]
            refine list_exact (by rw [HL.out, HN.out]) (fun k hk => HQ.out k (by rw [HN.out] at hk; exact hk)) (fun k hk => ?_)
            exact alls_at (smO_parts HY.out).2.2 k hk)
          clear pf
          go_wp2
          go_ret2
          exact ⟨some ⟨w2.heap.size, 0, none⟩, xs.length - M + 1, w2.heap.size, by rw [HY.out, smL_len HY.out, HN.out]; rfl, by rw [← HYS.out]; exact HO.out.below (below_draws (Below.refl _ _) _), below_draws B3.out _⟩
      · have HN := Lib.hid (smO_m (xs := xs) (m := m) (by omega))
        go_wp2
        go_ret2
        exact ⟨none, 0, 0, by rw [HN.out, smL_no HN.out]; rfl, .inl (smL_no HN.out), by repeat (first | exact (HB _).out | refine below_draws ?_ _)⟩
    · have HN := Lib.hid (smO_m (xs := xs) (m := m) (by omega))
      go_wp2
      go_ret2
      exact ⟨none, 0, 0, by rw [HN.out, smL_no HN.out]; rfl, .inl (smL_no HN.out), by repeat (first | exact (HB _).out | refine below_draws ?_ _)⟩
set_option maxHeartbeats 8000000 in
set_option maxRecDepth 100000 in
theorem s_l04Smooth (A : Option Addr) (cap : Nat) (xs : List Nat) (M : Nat) (w : World) (h : Fl w A xs) (hn : xs.length ≤ 256) (hcap : xs.length ≤ cap) (hm1 : 1 ≤ M) (hm2 : M ≤ xs.length) (hv : winV xs = true) :
    Calls Try.prog 77 #[.slice A xs.length cap, .int .i64 M] w fun e w' => ∃ A' c b, e = .returned (.tuple #[.slice A' (smL xs M).length c, .bool (smO xs M)]) ∧ OwnO w' w.heap.size A' b (smL xs M) ∧ Below w.heap.size w w' := by
  obtain ⟨b, off, rfl, -, -⟩ := h.at_ (show 0 < xs.length by omega)
  have HF := Lib.hid h; clear h
  have HC := Lib.hid hcap; clear hcap
  have HV := Lib.hid hv; clear hv
  obtain ⟨i0, hi, hz0, hz1, hz2⟩ := info_parts f32_info
  have HNN : Hid (smN xs (M : Int) = xs.length - M + 1) := Lib.hid (by unfold smN; simp)
  have HST : Hid (Gr (w.alloc (.cells #[] 22)) w.heap.size (.slice (some ⟨w.heap.size, 0, none⟩) 0 0) []) := Lib.hid (Gr.made _ _ 0 #[] (Nat.le_refl _) (by unfold maxLen; omega) rfl)
  have HB0 : Hid (Below w.heap.size w (w.alloc (.cells #[] 22))) := Lib.hid ((Below.refl _ _).alloc (Nat.le_refl _) _)
  go_enter Try.func77, Try.ntmps77
  go_wp2
  go_loopw [6, 7] (fun v i wr => ∃ (k : Nat) (ys : List Nat), k ≤ xs.length - M + 1 ∧ i = .int .i64 k ∧ Hid (Gr wr w.heap.size v ys) ∧ Hid (ys.length = k) ∧ Hid (alls (fun i => fin .f32 (smV xs M i)) k = true) ∧ Hid (∀ j, j < k → canon .f32 (ys.getD j 0) = smV xs M j) ∧ Hid (Below w.heap.size w wr)) (fun _ i _ => xs.length - M + 1 - (intOf i).toNat)
  case atStart => exact ⟨0, [], Nat.zero_le _, rfl, HST, rfl, rfl, Lib.hid (fun j hj => absurd hj (Nat.not_lt_zero j)), HB0⟩
  case round =>
    obtain ⟨k, ys, hk, rfl, HG, HL, HP, HQ, HBW⟩ := hrel
    have e1 : IntKind.i64.wrap ((k : Int) + (M : Int)) = ((k + M : Nat) : Int) := by rw [IntWalk.i64_in _ (by omega)]; omega
    by_cases hlt : k < xs.length - M + 1
    · have hkM : k + M ≤ xs.length := by omega
      have HFS := Lib.hid ((HF.out.below HBW.out).sub hkM)
      have HLS : Hid ((subV xs k M).length = M) := Lib.hid (subV_length hkM)
      have HE : Hid (∀ cp W, Fl W (some ⟨b, off + k, none⟩) (subV xs k M) → Calls Try.prog 67 #[.slice (some ⟨b, off + k, none⟩) M cp] W fun e w' => ∃ r n, e = .returned (.float .f32 r) ∧ canon .f32 r = meanV (subV xs k M) ∧ w' = W.drewN n) := Lib.hid (fun cp W hh => by
        have := s_l04Mean (some ⟨b, off + k, none⟩) cp (subV xs k M) W hh (by rw [HLS.out]; omega)
        rw [HLS.out] at this
        exact this)
      have hcap := HC.out
      go_wp2_with fail
      refine (HE.out _ _ HFS.out).mono ?_
      rintro e w1 ⟨r, n1, rfl, hr, hw⟩
      have b1 : Below wr.heap.size wr w1 := by rw [hw]; exact below_draws (Below.refl _ _) _
      have HG1 := Lib.hid (HG.out.below b1)
      have HB1 : Hid (Below w.heap.size w w1) := Lib.hid (below_of HBW.out HBW.out.size b1)
      have HR : Hid (canon .f32 r = smV xs M k) := Lib.hid hr
      clear b1 hw hr hcap
      go_wp2_with fail
      refine (s_l01Finite r _).mono ?_
      rintro e w2 ⟨n2, rfl, hw⟩
      have b1 : Below w1.heap.size w1 w2 := by rw [hw]; exact below_draws (Below.refl _ _) _
      have HG2 := Lib.hid (HG1.out.below b1)
      have HB2 : Hid (Below w.heap.size w w2) := Lib.hid (below_of HB1.out HB1.out.size b1)
      have HFR : Hid (fin .f32 (smV xs M k) = fin .f32 r) := Lib.hid (by rw [← HR.out, fin_canon])
      clear b1 hw
      cases pf : fin .f32 r
      · have HN2 : Hid (smO xs (M : Int) = false) := Lib.hid (smO_a (alls_no (k := k + 1) (by simp only [alls]; rw [show ((M : Int)).toNat = M from rfl, HFR.out, pf, Bool.and_false]) (by rw [HNN.out]; omega)))
        clear pf
        go_wp2
        go_ret2
        exact ⟨none, 0, 0, by rw [HN2.out, smL_no HN2.out]; rfl, .inl (smL_no HN2.out), HB2.out⟩
      · have HN : Hid (alls (fun i => fin .f32 (smV xs M i)) (k + 1) = true) := Lib.hid (by simp only [alls, HFR.out, pf, HP.out, Bool.and_true])
        have hown := HG2.out
        clear pf
        unfold Gr at hown
        go_wp2_with (first
          | (at_builtin; refine wpList_append_own _ rfl _ _ 41 rfl w.heap.size 22 i0 (.float .f32 0) 1 4 Try.underlying41 hi hz0 hz1 hz2 rfl (by decide) _ _ _ rfl (hown.alloc _) ⟨_, 0, none⟩ 1 1 [.float .f32 r] rfl rfl ?c1 ?c2 ?c3 ?c4 ?c5 ?_)
          | fail)
        case c1 =>
          intro j u hj
          match j, hj with
          | 0, hj => simp at hj; subst hj; simp [Addr.add]
        case c2 => intro u hu; simp at hu; subst hu; rfl
        case c3 => have := HL.out; unfold maxLen; omega
        case c4 => have := HL.out; omega
        case c5 => have := HB2.out.size; simp; omega
        · intro v' w3 hown' hgrow _
          obtain ⟨g2, b2⟩ := Gr.next HG2.out HB2.out (Nat.le_refl _) hown' hgrow
          have HG3 := Lib.hid g2
          have HB3 := Lib.hid b2
          have HQ2 : Hid (∀ j, j < k + 1 → canon .f32 ((ys ++ [r]).getD j 0) = smV xs M j) := Lib.hid (fun j hj => by
            rw [getD_snoc _ _ _ (by rw [HL.out]; exact hj), HL.out]
            split
            · rename_i e; rw [HR.out, e]
            · exact HQ.out j (by omega))
          have HL2 : Hid ((ys ++ [r]).length = k + 1) := Lib.hid (by simp [HL.out])
          clear g2 b2 hown hown' hgrow
          go_wp2
          go_roundw
          case rel => exact ⟨k + 1, _, by omega, by go_num, HG3, HL2, HN, HQ2, HB3⟩
          case measure => simp [intOf]; omega
    · have hkk : k = xs.length - M + 1 := by omega
      have HY : Hid (smO xs (M : Int) = true) := Lib.hid (smO_yes HV.out ⟨by omega, by omega⟩ (by rw [HNN.out, ← hkk]; exact HP.out))
      have HYS : Hid (ys = smL xs (M : Int)) := Lib.hid (by
        rw [smL_yes HY.out, HNN.out, ← hkk]
        exact list_exact HL.out HQ.out (fun j hj => alls_at HP.out j hj))
      obtain ⟨A', cap', b', rfl, ho⟩ := HG.out.own
      have HO := Lib.hid ho
      clear ho
      go_wp2
      go_ret2
      exact ⟨A', cap', b', by rw [HY.out, ← HYS.out]; rfl, by rw [← HYS.out]; exact HO.out, HBW.out⟩
set_option maxHeartbeats 8000000 in
set_option maxRecDepth 100000 in
theorem s_SmoothWinds (A : Option Addr) (cap : Nat) (xs : List Nat) (m : Int) (w : World) (h : Fl w A xs) (hn : xs.length ≤ 1048576) (hcap : xs.length ≤ cap) :
    Calls Try.prog 37 #[.slice A xs.length cap, .int .i64 m] w fun e w' => ∃ A' c b, e = .returned (.tuple #[.slice A' (smL xs m).length c, .bool (smO xs m)]) ∧ OwnO w' w.heap.size A' b (smL xs m) ∧ Below w.heap.size w w' := by
  have HF := Lib.hid h; clear h
  have HC := Lib.hid hcap; clear hcap
  go_enter Try.func37, Try.ntmps37
  go_wp2_with fail
  refine (s_l04Winds A cap xs _ HF.out hn).mono ?_
  rintro e w1 ⟨rfl, n1, hw⟩
  have B1 : Hid (Below w.heap.size w w1) := Lib.hid (by rw [hw]; exact below_draws (Below.refl _ _) _)
  clear hw
  cases v : winV xs
  · have HN := Lib.hid (smO_w (m := m) v); clear v
    go_wp2
    go_ret2
    exact ⟨none, 0, 0, by rw [HN.out, smL_no HN.out]; rfl, .inl (smL_no HN.out), B1.out⟩
  · have V := Lib.hid v
    obtain ⟨h1, h256⟩ := winV_len v
    clear v
    go_wp2_with fail
    refine (l00In_any _ _ _ _).mono ?_
    rintro e w' ⟨rfl, rfl⟩
    by_cases hm : 1 ≤ m ∧ m ≤ (xs.length : Int)
    · obtain ⟨M, rfl⟩ : ∃ M : Nat, m = M := ⟨m.toNat, by omega⟩
      rw [decide_eq_true hm]
      have hm1 : 1 ≤ M := by omega
      have hm2 : M ≤ xs.length := by omega
      clear hm
      go_wp2_with fail
      refine (s_l04Smooth A cap xs M _ (HF.out.below B1.out) h256 HC.out hm1 hm2 V.out).mono ?_
      rintro e w2 ⟨A', c, b, rfl, ho, b2⟩
      have B2 : Hid (Below w.heap.size w w2) := Lib.hid (below_of B1.out B1.out.size b2)
      have HO := Lib.hid ho
      have HZ := Lib.hid B1.out.size
      clear b2 ho
      go_wp2
      go_ret2
      refine ⟨A', c, b, rfl, ?_, B2.out⟩
      rcases HO.out with h0 | ⟨h1, h2, h3⟩
      · exact .inl h0
      · exact .inr ⟨h1, Nat.le_trans HZ.out h2, h3⟩
    · have HN := Lib.hid (smO_m (xs := xs) (m := m) hm)
      rw [decide_eq_false hm]
      clear hm
      go_wp2
      go_ret2
      exact ⟨none, 0, 0, by rw [HN.out, smL_no HN.out]; rfl, .inl (smL_no HN.out), B1.out⟩
end Go.Proofs.Yteligfbbofgonaa
