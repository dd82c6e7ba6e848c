/- Lists of states: counts, changes and the longest time, both sides. No statement is proved here. -/
import Derived.Test.YtmcfnkfcklcpnabCnt
namespace Go.Proofs.Ytmcfnkfcklcpnab
open Go Go.RowKit
/-- how many of the first k differ from the one before -/
def chgN (xs : List Int) : Nat → Nat
  | 0 => 0
  | k + 1 => chgN xs k + (bif decide (k = 0) then 0 else bif decide (xs.getD k 0 = xs.getD (k - 1) 0) then 0 else 1)
/-- how long s lasts at the end of the first k -/
def runN (xs : List Int) (s : Int) : Nat → Nat
  | 0 => 0
  | k + 1 => bif decide (xs.getD k 0 = s) then runN xs s k + 1 else 0
def mostN (xs : List Int) (s : Int) : Nat → Nat
  | 0 => 0
  | k + 1 => bif decide (mostN xs s k < runN xs s (k + 1)) then runN xs s (k + 1) else mostN xs s k
def chgR (xs : List Int) : Int := bif stsO xs then (chgN xs xs.length : Int) else 0
def lngO (xs : List Int) (s : Int) : Bool := stsO xs && stateV s
def lngR (xs : List Int) (s : Int) : Int := bif lngO xs s then (mostN xs s xs.length : Int) else 0
theorem chg_le (xs : List Int) (k : Nat) : chgN xs k ≤ k := by
  induction k with
  | zero => exact Nat.le_refl _
  | succ k ih => unfold chgN; cases decide (k = 0) <;> cases decide (xs.getD k 0 = xs.getD (k - 1) 0) <;> simp <;> omega
theorem run_le (xs : List Int) (s : Int) (k : Nat) : runN xs s k ≤ k := by
  induction k with
  | zero => exact Nat.le_refl _
  | succ k ih => unfold runN; cases decide (xs.getD k 0 = s) <;> simp <;> omega
theorem most_le (xs : List Int) (s : Int) (k : Nat) : mostN xs s k ≤ k := by
  induction k with
  | zero => exact Nat.le_refl _
  | succ k ih => unfold mostN; have := run_le xs s (k + 1); cases decide (mostN xs s k < runN xs s (k + 1)) <;> simp <;> omega
theorem cntL_few (xs : List Int) : (cntL xs).length ≤ 1048576 := by unfold cntL; cases stsO xs <;> simp [cnt5]
theorem stsO_len {xs : List Int} (h : stsO xs = true) : xs.length ≤ 128 := by
  unfold stsO at h; rw [Bool.and_eq_true, decide_eq_true_eq] at h; exact h.1
theorem i_areStates (A : Option Addr) (cap : Nat) (xs : List Int) (w : World) (h : FlI w A xs) (hn : xs.length ≤ 1048576) (hwf : ∀ k, k < xs.length → (Lit.int .i64 (xs.getD k 0)).wf = true) :
    Calls Try.prog 79 #[.slice A xs.length cap] w fun e w' => e = .returned (.bool (stsO xs)) ∧ Below w.heap.size w w' := by
  go_enter Try.func79, Try.ntmps79
  go_wp2_with fail
  refine (i_CountStates A cap xs _ h hn hwf).mono ?_
  rintro e w1 ⟨A', c, b, rfl, -, b1⟩
  go_wp2
  go_ret
  exact ⟨rfl, b1⟩
set_option maxHeartbeats 4000000 in
theorem s_l05States (A : Option Addr) (cap : Nat) (xs : List Int) (w : World) (h : FlI w A xs) (hn : xs.length ≤ 1048576) :
    Calls Try.prog 78 #[.slice A xs.length cap] w fun e w' => ∃ n, e = .returned (.bool (stsO xs)) ∧ w' = w.drewN n := by
  have HF := Lib.hid h; clear h
  have HE : Hid (stsO xs = (stsV xs xs.length && decide (xs.length ≤ 128))) := Lib.hid (by unfold stsO; rw [Bool.and_comm])
  go_enter Try.func78, Try.ntmps78
  go_wp2
  go_loopw [6] (fun i wr => ∃ k n : Nat, k ≤ xs.length ∧ i = .int .i64 k ∧ Hid (stsV xs k = true) ∧ wr = w.drewN n) (fun i _ => xs.length - (intOf i).toNat)
  case atStart => exact ⟨0, 0, Nat.zero_le _, rfl, Lib.hid rfl, rfl⟩
  case round =>
    obtain ⟨k, n, hk, rfl, hv, rfl⟩ := hrel
    by_cases hlt : k < xs.length
    · obtain ⟨b, off, rfl, hb, hc⟩ := HF.out.at_ hlt
      have hS : Hid (stsV xs (k + 1) = stateV (xs.getD k 0)) := Lib.hid (by show (stsV xs k && _) = _; rw [hv.out]; rfl)
      have hno : Hid (stateV (xs.getD k 0) = false → stsO xs = false) := Lib.hid fun hh => by
        cases ho : stsO xs
        · rfl
        · unfold stsO at ho
          rw [Bool.and_eq_true] at ho
          rw [stsV_at ho.2 k hlt] at hh
          cases hh
      clear hb
      generalize xs.getD k 0 = x at hc hS hno
      go_wp2_with fail
      refine (s_l00In _ _ _ _).mono ?_
      rintro e w' ⟨rfl, rfl⟩
      rw [show (decide ((0 : Int) ≤ x) && decide (x ≤ 4)) = stateV x from rfl]
      cases hx : stateV x
      · have hO := Lib.hid (hno.out hx)
        go_wp2
        go_ret
        exact ⟨_, by rw [hO.out]; rfl, rfl⟩
      · have hX := Lib.hid hx; clear hx
        go_wp2
        go_roundw
        case rel => exact ⟨k + 1, _, by omega, by go_num, Lib.hid (by rw [hS.out]; exact hX.out), rfl⟩
        case measure => simp [intOf]; omega
    · have hkk : k = xs.length := by omega
      subst hkk
      by_cases h128 : xs.length ≤ 128
      · have hO : Hid (stsO xs = true) := Lib.hid (by rw [HE.out, hv.out, decide_eq_true h128]; rfl)
        go_wp2
        go_ret
        exact ⟨_, by rw [hO.out]; simp; omega, rfl⟩
      · have hO : Hid (stsO xs = false) := Lib.hid (by rw [HE.out, decide_eq_false h128]; simp)
        go_wp2
        go_ret
        exact ⟨_, by rw [hO.out]; simp; omega, rfl⟩
/-- the counts of the first k -/
def K5 (w wr : World) (B k : Nat) (xs : List Int) : Prop := Below w.heap.size w wr ∧ w.heap.size ≤ B ∧ B < wr.heap.size ∧ ∀ j : Nat, j < 5 → wr.cell? ⟨B, j, none⟩ = some (.int .i64 (cnt xs (j : Int) k : Int)) ∧ wr.frozen? ⟨B, j, none⟩ = false
theorem K5.start {w w1 : World} (h : Below w.heap.size w w1) (E : TypeId) (xs : List Int) : K5 w (w1.alloc (.cells (madeCells #[.int .i64 0] 5) E)) w1.heap.size 0 xs := by
  refine ⟨h.alloc h.size _, h.size, by simp, fun j hj => ⟨?_, ?_⟩⟩
  · rw [World.cell?_alloc_at (w := w1) (hn := rfl)]
    simp [madeCells, hj, Nat.mod_one, cnt]
  · rw [World.frozen?_alloc_at (w := w1) (hn := rfl)]
theorem K5.set {w wr : World} {B k i : Nat} {xs : List Int} (h : K5 w wr B k xs) (hi : i < 5) (hx : xs.getD k 0 = (i : Int)) : K5 w (wr.setCell ⟨B, i, none⟩ (.int .i64 (cnt xs (i : Int) (k + 1) : Int))) B (k + 1) xs := by
  obtain ⟨h1, h2, h3, h4⟩ := h
  refine ⟨h1.setCell (p := ⟨B, i, none⟩) h2 _, h2, by simpa [World.setCell] using h3, fun j hj => ⟨?_, ?_⟩⟩
  · by_cases e : j = i
    · subst e
      rw [World.cell?_setCell_same (h := (h4 j hj).1)]
    · rw [World.cell?_setCell_other (h := by intro hh; simp only [Addr.mk.injEq] at hh; omega), (h4 j hj).1]
      have : cnt xs (j : Int) (k + 1) = cnt xs (j : Int) k := by
        conv => lhs; unfold cnt
        rw [hx, decide_eq_false (by omega)]; rfl
      rw [this]
  · rw [World.frozen?_setCell]; exact (h4 j hj).2
theorem cnt_up {xs : List Int} {k : Nat} {x : Int} (hx : xs.getD k 0 = x) : cnt xs x (k + 1) = cnt xs x k + 1 := by
  conv => lhs; unfold cnt
  rw [hx]; simp
theorem K5.own {w wr : World} {B : Nat} {xs : List Int} (h : K5 w wr B xs.length xs) : OwnI wr B (cnt5 xs) :=
  ⟨h.2.2.1, fun j hj => ⟨by rw [cnt5_at xs (by simpa [cnt5] using hj)]; exact (h.2.2.2 j (by simpa [cnt5] using hj)).1, (h.2.2.2 j (by simpa [cnt5] using hj)).2⟩⟩
theorem K5.drew {w wr : World} {B k : Nat} {xs : List Int} (h : K5 w wr B k xs) (n : Nat) : K5 w (wr.drewN n) B k xs := ⟨below_draws h.1 n, h.2⟩
set_option maxHeartbeats 8000000 in
theorem s_CountStates (A : Option Addr) (cap : Nat) (xs : List Int) (w : World) (h : FlI w A xs) (hn : xs.length ≤ 1048576) :
    Calls Try.prog 30 #[.slice A xs.length cap] w fun e w' => ∃ A' c b, e = .returned (.tuple #[.slice A' (cntL xs).length c, .bool (stsO xs)]) ∧ OwnOI w' w.heap.size A' b (cntL xs) ∧ Below w.heap.size w w' := by
  have HF := Lib.hid h; clear h
  cases ho : stsO xs
  · have HO := Lib.hid ho; clear ho
    go_enter Try.func30, Try.ntmps30
    go_wp2_with fail
    refine (s_l05States A cap xs _ HF.out hn).mono ?_
    rintro e w' ⟨n, rfl, rfl⟩
    rw [HO.out]
    go_wp2
    refine bodyPost_ret (v := .tuple #[.slice none 0 0, .bool false]) (by simp [results, Try.results30, go_sem]) rfl ⟨none, 0, 0, by unfold cntL; rw [HO.out]; rfl, .inl (by unfold cntL; rw [HO.out]; rfl), below_draws (Below.refl _ _) _⟩
  · have HO := Lib.hid ho; clear ho
    have h128 := stsO_len HO.out
    have hmk := make_5
    go_enter Try.func30, Try.ntmps30
    go_wp2_with fail
    refine (s_l05States A cap xs _ HF.out hn).mono ?_
    rintro e w1 ⟨n, rfl, hw⟩
    have B1 : Hid (Below w.heap.size w w1) := Lib.hid (by rw [hw]; exact below_draws (Below.refl _ _) _)
    clear hw
    rw [HO.out]
    go_wp2
    clear hmk
    go_loopw [12] (fun i wr => ∃ k : Nat, k ≤ xs.length ∧ i = .int .i64 k ∧ Hid (K5 w wr w1.heap.size k xs)) (fun i _ => xs.length - (intOf i).toNat)
    case atStart => exact ⟨0, Nat.zero_le _, rfl, Lib.hid (K5.start B1.out _ _)⟩
    case round =>
      obtain ⟨k, hk, rfl, hK⟩ := hrel
      by_cases hlt : k < xs.length
      · obtain ⟨b, off, rfl, hb, hc⟩ := HF.out.at_ hlt
        have hcx := (hK.out.1.cell (p := ⟨b, off + k, none⟩) hb).trans hc
        have hs : stateV (xs.getD k 0) = true := by
          have ho := HO.out
          unfold stsO at ho
          rw [Bool.and_eq_true] at ho
          exact stsV_at ho.2 k hlt
        have hcase := stateV_cases hs
        have HX : Hid (∀ x : Int, xs.getD k 0 = x → (cnt xs x (k + 1) : Int) = cnt xs x k + 1) := Lib.hid fun x hx => by rw [cnt_up hx]; rfl
        have HK2 : Hid (∀ i : Nat, i < 5 → xs.getD k 0 = (i : Int) → K5 w (wr.setCell ⟨w1.heap.size, i, none⟩ (.int .i64 (cnt xs (i : Int) k + 1 : Int))) w1.heap.size (k + 1) xs) := Lib.hid fun i hi hx => by
          rw [← HX.out _ hx]; exact hK.out.set hi hx
        have hle : ∀ x, cnt xs x k ≤ k := fun x => cnt_le xs x k
        clear hs hb hc HX
        have c0 : wr.cell? ⟨w1.heap.size, 0, none⟩ = some (.int .i64 (cnt xs 0 k : Int)) := (hK.out.2.2.2 0 (by omega)).1
        have f0 := (hK.out.2.2.2 0 (by omega)).2
        have c1 : wr.cell? ⟨w1.heap.size, 1, none⟩ = some (.int .i64 (cnt xs 1 k : Int)) := (hK.out.2.2.2 1 (by omega)).1
        have f1 := (hK.out.2.2.2 1 (by omega)).2
        have c2 : wr.cell? ⟨w1.heap.size, 2, none⟩ = some (.int .i64 (cnt xs 2 k : Int)) := (hK.out.2.2.2 2 (by omega)).1
        have f2 := (hK.out.2.2.2 2 (by omega)).2
        have c3 : wr.cell? ⟨w1.heap.size, 3, none⟩ = some (.int .i64 (cnt xs 3 k : Int)) := (hK.out.2.2.2 3 (by omega)).1
        have f3 := (hK.out.2.2.2 3 (by omega)).2
        have c4 : wr.cell? ⟨w1.heap.size, 4, none⟩ = some (.int .i64 (cnt xs 4 k : Int)) := (hK.out.2.2.2 4 (by omega)).1
        have f4 := (hK.out.2.2.2 4 (by omega)).2
        have l0 := hle 0
        have l1 := hle 1
        have l2 := hle 2
        have l3 := hle 3
        have l4 := hle 4
        have k0 : xs.getD k 0 = 0 → K5 w (wr.setCell ⟨w1.heap.size, 0, none⟩ (.int .i64 ((cnt xs 0 k : Int) + 1))) w1.heap.size (k + 1) xs := HK2.out 0 (by omega)
        have k1 : xs.getD k 0 = 1 → K5 w (wr.setCell ⟨w1.heap.size, 1, none⟩ (.int .i64 ((cnt xs 1 k : Int) + 1))) w1.heap.size (k + 1) xs := HK2.out 1 (by omega)
        have k2 : xs.getD k 0 = 2 → K5 w (wr.setCell ⟨w1.heap.size, 2, none⟩ (.int .i64 ((cnt xs 2 k : Int) + 1))) w1.heap.size (k + 1) xs := HK2.out 2 (by omega)
        have k3 : xs.getD k 0 = 3 → K5 w (wr.setCell ⟨w1.heap.size, 3, none⟩ (.int .i64 ((cnt xs 3 k : Int) + 1))) w1.heap.size (k + 1) xs := HK2.out 3 (by omega)
        have k4 : xs.getD k 0 = 4 → K5 w (wr.setCell ⟨w1.heap.size, 4, none⟩ (.int .i64 ((cnt xs 4 k : Int) + 1))) w1.heap.size (k + 1) xs := HK2.out 4 (by omega)
        clear hle HK2
        generalize xs.getD k 0 = x at hcx hcase k0 k1 k2 k3 k4
        generalize cnt xs 0 k = m0 at c0 k0 l0
        generalize cnt xs 1 k = m1 at c1 k1 l1
        generalize cnt xs 2 k = m2 at c2 k2 l2
        generalize cnt xs 3 k = m3 at c3 k3 l3
        generalize cnt xs 4 k = m4 at c4 k4 l4
        have K0 := Lib.hid k0
        have K1 := Lib.hid k1
        have K2 := Lib.hid k2
        have K3 := Lib.hid k3
        have K4 := Lib.hid k4
        clear k0 k1 k2 k3 k4
        rcases hcase with rfl | rfl | rfl | rfl | rfl
        · go_wp2
          go_roundw
          case rel => exact ⟨k + 1, by omega, by go_num, Lib.hid (K0.out rfl)⟩
          case measure => simp [intOf]; omega
        · go_wp2
          go_roundw
          case rel => exact ⟨k + 1, by omega, by go_num, Lib.hid (K1.out rfl)⟩
          case measure => simp [intOf]; omega
        · go_wp2
          go_roundw
          case rel => exact ⟨k + 1, by omega, by go_num, Lib.hid (K2.out rfl)⟩
          case measure => simp [intOf]; omega
        · go_wp2
          go_roundw
          case rel => exact ⟨k + 1, by omega, by go_num, Lib.hid (K3.out rfl)⟩
          case measure => simp [intOf]; omega
        · go_wp2
          go_roundw
          case rel => exact ⟨k + 1, by omega, by go_num, Lib.hid (K4.out rfl)⟩
          case measure => simp [intOf]; omega
      · have hkk : k = xs.length := by omega
        subst hkk
        go_wp2
        refine bodyPost_ret (v := .tuple #[.slice (some ⟨w1.heap.size, 0, none⟩) 5 5, .bool true]) (by simp [results, Try.results30, go_sem]) rfl ⟨some ⟨w1.heap.size, 0, none⟩, 5, w1.heap.size, by unfold cntL; rw [HO.out]; rfl, .inr ⟨rfl, hK.out.2.1, by unfold cntL; rw [HO.out]; exact hK.out.own⟩, hK.out.1⟩
end Go.Proofs.Ytmcfnkfcklcpnab
