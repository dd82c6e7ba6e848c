/- TurnRose: the indices that come around, and the program's side. No statement is proved here. -/
import Derived.Test.YtleimkejjpggmaaRosN
import Derived.IntWalk
namespace Go.Proofs.Ytleimkejjpggmaa
open Go Go.RowKit
/-- which one comes to the place k -/
def trnJ (y : Int) (n k : Nat) : Nat := (((k : Int) - y) % (n : Int)).toNat
def trnL (xs : List Nat) (y : Int) : List Nat := (List.range xs.length).map fun k => xs.getD (trnJ y xs.length k) 0
def trnO (a l : List Nat) (y : Int) : Bool := rosV a l && decide (-16 ≤ y ∧ y ≤ 16)
theorem trnL_length (xs : List Nat) (y : Int) : (trnL xs y).length = xs.length := by simp [trnL]
theorem trnL_at {xs : List Nat} {y : Int} {k : Nat} (h : k < xs.length) : (trnL xs y).getD k 0 = xs.getD (trnJ y xs.length k) 0 := by simp [trnL, List.getD, h]
theorem trnL_is {xs ys : List Nat} {y : Int} (h1 : ys.length = xs.length) (h : ∀ k, k < xs.length → ys.getD k 0 = xs.getD (trnJ y xs.length k) 0) : ys = trnL xs y := by
  apply List.ext_getElem (by rw [h1, trnL_length])
  intro k h2 h3
  have := h k (by omega)
  rw [← trnL_at (by omega)] at this
  simpa [List.getD, h2, h3] using this
theorem trn_few (a l : List Nat) (y : Int) : FewS (gLn (trnO a l y) (trnL a y)) (gLn (trnO a l y) (trnL l y)) := by
  unfold gLn
  cases h : trnO a l y
  · simp [FewS]
  · unfold trnO at h
    simp only [Bool.and_eq_true] at h
    obtain ⟨s1, s2, s3⟩ := rosV_sized h.1
    simp only [if_true, FewS, trnL_length]
    omega
theorem trnJ_is {y : Int} {n k : Nat} (h : 1 ≤ n) : ((k : Int) - y) % (n : Int) = (trnJ y n k : Int) ∧ trnJ y n k < n := by
  have h1 := Int.emod_nonneg ((k : Int) - y) (show (n : Int) ≠ 0 by omega)
  have h2 := Int.emod_lt_of_pos ((k : Int) - y) (show (0 : Int) < n by omega)
  unfold trnJ
  omega
theorem around_is (i : Int) {n : Nat} (h1 : 1 ≤ n) (h2 : n ≤ 16) : (wrap64 (i.tmod n + n)).tmod n = i % (n : Int) := by
  have a1 := Int.tmod_lt_of_pos i (show (0 : Int) < n by omega)
  have a2 := Int.lt_tmod_of_pos i (show (0 : Int) < n by omega)
  rw [IntWalk.wrap64_in _ (by omega), Int.tmod_eq_emod_of_nonneg (by omega), Int.tmod_def]
  have e : i - (n : Int) * i.tdiv n + n = i + n * (1 - i.tdiv n) := by rw [Int.mul_sub, Int.mul_one]; omega
  rw [e, Int.add_mul_emod_self_left]
theorem turn_is {y : Int} {n k : Nat} (h1 : 1 ≤ n) (hk : k < n) (y2 : y ≤ 16) : ((k : Int) - y + (n : Int) * 16).tmod n = ((k : Int) - y) % (n : Int) := by
  rw [Int.tmod_eq_emod_of_nonneg (by omega), Int.add_mul_emod_self_left]
theorem trnO_v {a l : List Nat} {y : Int} (h : rosV a l = false) : trnO a l y = false := by unfold trnO; rw [h]; rfl
theorem trnO_y {a l : List Nat} {y : Int} (h : ¬ (-16 ≤ y ∧ y ≤ 16)) : trnO a l y = false := by unfold trnO; rw [decide_eq_false h]; simp
theorem trnO_yes {a l : List Nat} {y : Int} (h1 : rosV a l = true) (h : -16 ≤ y ∧ y ≤ 16) : trnO a l y = true := by unfold trnO; rw [h1, decide_eq_true h]; rfl
theorem i_aroundE (i : Int) (n j : Nat) (w : World) (h1 : 1 ≤ n) (h2 : n ≤ 16) (hj : i % (n : Int) = (j : Int)) :
    Calls Try.prog 66 #[.int .i64 i, .int .i64 n] w fun e w' => e = .returned (.int .i64 j) ∧ w' = w := by
  have HA := Lib.hid (around_is i h1 h2)
  have HJ := Lib.hid hj; clear hj
  go_enter Try.func66, Try.ntmps66
  go_wp2
  go_ret
  refine ⟨?_, rfl⟩
  rw [← HJ.out, ← HA.out]
  rfl
set_option maxHeartbeats 4000000 in
theorem i_turnAt (B1 B2 B3 k n j : Nat) (y : Int) (A : Option Addr) (cap : Nat) (xs : List Nat) (w : World) (h : Fl w A xs) (c1 : w.cell? ⟨B1, 0, none⟩ = some (.slice A xs.length cap)) (c2 : w.cell? ⟨B2, 0, none⟩ = some (.int .i64 y)) (c3 : w.cell? ⟨B3, 0, none⟩ = some (.int .i64 n))
    (h1 : 1 ≤ n) (h2 : n ≤ 16) (hk : k < n) (y1 : -16 ≤ y) (y2 : y ≤ 16) (hj : ((k : Int) - y) % (n : Int) = (j : Int)) (hjx : j < xs.length) :
    Calls Try.prog 65 #[.int .i64 k, .pointer (some ⟨B1, 0, none⟩), .pointer (some ⟨B2, 0, none⟩), .pointer (some ⟨B3, 0, none⟩)] w fun e w' => e = .returned (.float .f32 (xs.getD j 0)) ∧ Below w.heap.size w w' := by
  obtain ⟨b, off, rfl, hb, hc⟩ := h.at_ hjx
  clear h hb
  generalize xs.getD j 0 = x at *
  have HJ := Lib.hid hj; clear hj
  have hwr : IntKind.i64.wrap ((k : Int) - y) = (k : Int) - y := IntWalk.i64_in _ (by omega)
  go_enter Try.func65, Try.ntmps65
  go_wp2
  go_region_with (go_at_call 66; refine (i_aroundE _ n j _ h1 h2 HJ.out).mono ?_; rintro e w' ⟨rfl, rfl⟩)
  all_goals
    go_wp2
    go_ret
    exact ⟨rfl, by repeat (first | exact Below.refl _ _ | refine below_draws ?_ _)⟩
theorem i_listOf_trn (c0 c1 c2 : Value) (q : Nat → Nat) (n : Nat) (w : World) (hn : n ≤ 1048576)
    (hat : ∀ k, k < n → ∀ wr, Below w.heap.size w wr → Calls Try.prog 65 #[.int .i64 k, c0, c1, c2] wr fun e w' => e = .returned (.float .f32 (q k)) ∧ Below wr.heap.size wr w') :
    Calls Try.prog 61 #[.int .i64 n, .func (.func 65) #[] #[c0, c1, c2]] w fun e w' => ∃ (A : Option Addr) (xs : List Nat), e = .returned (.slice A n n) ∧ xs.length = n ∧ (∀ k, k < n → xs.getD k 0 = q k) ∧ Below w.heap.size w w' ∧ A = some ⟨w.heap.size, 0, none⟩ ∧ Own w' w.heap.size xs := by
  have hmk := make_f32 n w hn
  have HA := Lib.hid hat; clear hat
  go_enter Try.func61, Try.ntmps61
  go_wp2
  go_loopw [11] (fun i wr => ∃ (k : Nat) (ys : List Nat), k ≤ n ∧ i = .int .i64 k ∧ FlNew w wr w.heap.size n k ys ∧ ys.length = n ∧ Hid (∀ j, j < k → ys.getD j 0 = q j)) (fun i _ => n - (intOf i).toNat)
  case atStart => exact ⟨0, List.replicate n 0, Nat.zero_le _, rfl, FlNew.start .., by simp, Lib.hid (fun j hj => absurd hj (Nat.not_lt_zero j))⟩
  case round =>
    obtain ⟨k, ys, hk, rfl, hnew, hlen, hq⟩ := hrel
    clear hmk
    by_cases hlt : k < n
    · have hcall := HA.out k hlt _ hnew.1
      have HN := Lib.hid hnew; clear hnew
      have hwr : IntKind.i64.wrap ((k : Int) + 1) = (k : Int) + 1 := IntWalk.i64_in _ (by omega)
      go_wp2_with fail
      refine hcall.mono ?_
      rintro e w1 ⟨rfl, b1⟩
      have hn1 := HN.out.below b1
      obtain ⟨hc2, hc3⟩ := hn1.2.2.2 k hlt
      rw [if_neg (by omega)] at hc2
      have hst := (hn1.congr (ys := ys.set k (q k)) (fun j hj => by rw [getD_lset (by omega), if_neg (by omega)])).step hlt
      rw [getD_lset (by omega), if_pos rfl] at hst
      have HS := Lib.hid hst
      have HQ : Hid (∀ j, j < k + 1 → (ys.set k (q k)).getD j 0 = q j) := Lib.hid (fun j hj => by
        rw [getD_lset (by omega)]
        by_cases e : k = j
        · rw [if_pos e, e]
        · rw [if_neg e]; exact hq.out j (by omega))
      clear hst hn1 b1 hcall
      go_wp2
      go_roundw
      case rel => exact ⟨k + 1, ys.set k (q k), by omega, by go_num, HS.out, by simp [hlen], HQ⟩
      case measure => simp [intOf]; omega
    · have HN := Lib.hid hnew; clear hnew
      have hkk : k = n := by omega
      subst hkk
      go_wp2
      go_ret
      exact ⟨_, ys, rfl, hlen, hq.out, HN.out.1, rfl, by subst hlen; exact Own.of_new HN.out (Nat.le_refl _)⟩
set_option maxHeartbeats 4000000 in
theorem i_turned (B6 B3 n : Nat) (y : Int) (A : Option Addr) (cap : Nat) (xs : List Nat) (w : World) (h : Fl w A xs) (c6 : BlkL w B6 [.int .i64 n]) (c3 : BlkL w B3 [.int .i64 y])
    (h1 : 1 ≤ n) (h2 : n ≤ 16) (y1 : -16 ≤ y) (y2 : y ≤ 16) (hx : xs.length = n) :
    Calls Try.prog 64 #[.slice A n cap, .pointer (some ⟨B6, 0, none⟩), .pointer (some ⟨B3, 0, none⟩)] w fun e w' => ∃ g, e = .returned (.slice (some ⟨g, 0, none⟩) n n) ∧ w.heap.size ≤ g ∧ Own w' g (trnL xs y) ∧ Below w.heap.size w w' := by
  have HF := Lib.hid h; clear h
  have HX := Lib.hid hx; clear hx
  obtain ⟨w0, hw0⟩ : ∃ x, x = w.alloc (.cells #[.slice A n cap] 22) := ⟨_, rfl⟩
  have b0 : Below w.heap.size w w0 := by rw [hw0]; exact (Below.refl _ _).alloc (Nat.le_refl _) _
  have K0 : Hid (BlkL w0 w.heap.size [.slice A n cap]) := Lib.hid (by rw [hw0]; exact blkL_at w #[.slice A n cap] _ rfl)
  have K6 : Hid (BlkL w0 B6 [.int .i64 n]) := Lib.hid (c6.below b0)
  have K3 : Hid (BlkL w0 B3 [.int .i64 y]) := Lib.hid (c3.below b0)
  have B0 : Hid (Below w.heap.size w w0) := Lib.hid b0
  have r6 : w0.cell? ⟨B6, 0, none⟩ = some (.int .i64 n) := (K6.out.2 0 _ rfl).1
  rw [hw0] at r6
  clear b0 c6 c3
  go_enter Try.func64, Try.ntmps64
  go_wp2_with fail
  rw [← hw0]
  clear r6 hw0
  refine (i_listOf_trn _ _ _ (fun k => xs.getD (trnJ y n k) 0) n _ (by omega) (fun k hk wr hb => by
    have := i_turnAt w.heap.size B3 B6 k n (trnJ y n k) y A cap xs wr (HF.out.below (below_of B0.out B0.out.size hb)) (by rw [HX.out]; exact ((K0.out.below hb).2 0 _ rfl).1) ((K3.out.below hb).2 0 _ rfl).1 ((K6.out.below hb).2 0 _ rfl).1 h1 h2 hk y1 y2 (trnJ_is h1).1 (by rw [HX.out]; exact (trnJ_is h1).2)
    exact this)).mono ?_
  rintro e w1 ⟨Y, ys, rfl, hlen, hq, b1, rfl, hown⟩
  obtain rfl : ys = trnL xs y := trnL_is (by rw [hlen, HX.out]) (fun k hk => by rw [HX.out] at hk ⊢; exact hq k hk)
  have HO := Lib.hid hown
  have HB := Lib.hid (below_of B0.out B0.out.size b1)
  clear hown hq hlen b1
  go_wp2
  go_ret
  exact ⟨_, rfl, B0.out.size, HO.out, HB.out⟩
end Go.Proofs.Ytleimkejjpggmaa
