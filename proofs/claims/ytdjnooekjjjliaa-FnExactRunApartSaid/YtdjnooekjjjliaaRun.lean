/- Where air comes apart, one angle after another: both sides. No statement is proved here. -/
import Derived.Test.YtdjnooekjjjliaaStep
import Derived.Test.YtdjnooekjjjliaaMarkB
import Derived.Test.YtdjnooekjjjliaaSums
namespace Go.Proofs.Ytdjnooekjjjliaa
open Go Go.RowKit
def apS (xs : List Nat) (up down : Nat) : Nat → Bool
  | 0 => false
  | k + 1 => apartB (apS xs up down k) (xs.getD k 0) up down
def apL (xs : List Nat) (up down k : Nat) : List Bool := (List.range k).map fun j => apS xs up down (j + 1)
def runO (xs : List Nat) (up down : Nat) : Bool := decide (xs.length ≤ 256) && (edges up down && fins xs xs.length)
def runL (xs : List Nat) (up down : Nat) : List Bool := bif runO xs up down then apL xs up down xs.length else []
theorem apL_len (xs : List Nat) (up down k : Nat) : (apL xs up down k).length = k := by simp [apL]
theorem apL_snoc (xs : List Nat) (up down k : Nat) : apL xs up down (k + 1) = apL xs up down k ++ [apS xs up down (k + 1)] := by simp [apL, List.range_succ]
theorem runL_few (xs : List Nat) (up down : Nat) : (runL xs up down).length ≤ 1048576 := by
  unfold runL runO
  by_cases h : xs.length ≤ 256
  · cases (decide (xs.length ≤ 256) && (edges up down && fins xs xs.length))
    · simp
    · rw [show (bif true then apL xs up down xs.length else []) = apL xs up down xs.length from rfl, apL_len]; omega
  · rw [decide_eq_false h]; simp
theorem fins_yes {xs : List Nat} {n : Nat} (h : fins xs n = true) : ∀ k, k < n → fin .f32 (xs.getD k 0) = true := by
  induction n with
  | zero => intro k hk; omega
  | succ n ih =>
    simp only [fins, Bool.and_eq_true] at h
    intro k hk
    by_cases e : k = n
    · subst e; exact h.2
    · exact ih h.1 k (by omega)
set_option maxHeartbeats 8000000 in
set_option maxRecDepth 100000 in
theorem i_RunApart (A : Option Addr) (cap : Nat) (xs : List Nat) (up down : Nat) (w : World) (h : Fl w A xs) (_hn : xs.length ≤ 1048576) :
    Calls Try.prog 8 #[.slice A xs.length cap, .float .f32 up, .float .f32 down] w fun e w' => ∃ A' c b, e = .returned (.tuple #[.slice A' (runL xs up down).length c, .bool (runO xs up down)]) ∧ OwnOB w' w.heap.size A' b (runL xs up down) ∧ Below w.heap.size w w' := by
  have HF := Lib.hid h; clear h
  obtain ⟨i0, hi, hz0, hz1, hz2⟩ := info_parts bool_info
  by_cases h256 : xs.length ≤ 256
  · cases he : edges up down
    · have HO : Hid (runO xs up down = false) := Lib.hid (by unfold runO; rw [he]; simp)
      rw [HO.out]
      go_enter Try.func8, Try.ntmps8
      go_wp2_with fail
      refine (i_areBounds _ _ _).mono ?_
      rintro e w' ⟨n, rfl, rfl⟩
      rw [he]
      go_wp2
      refine bodyPost_ret (v := .tuple #[.slice none 0 0, .bool false]) (by simp [results, Try.results8, go_sem]) rfl (by first | exact ⟨none, 0, 0, by unfold runL; rw [HO.out]; rfl, .inl (by unfold runL; rw [HO.out]; rfl), below_draws (Below.refl _ _) _⟩ | exact ⟨none, ⟨0, by unfold runL; rw [HO.out]; rfl⟩, ⟨0, .inl (by unfold runL; rw [HO.out]; rfl)⟩, below_draws (Below.refl _ _) _⟩)
    · have HE := Lib.hid he; clear he
      go_enter Try.func8, Try.ntmps8
      go_wp2_with fail
      refine (i_areBounds _ _ _).mono ?_
      rintro e w1 ⟨n, rfl, hw⟩
      have B1 : Hid (Below w.heap.size w w1) := Lib.hid (by rw [hw]; exact below_draws (Below.refl _ _) _)
      clear hw
      rw [HE.out]
      have hmk := run_make (P := Try.prog) w1 24 4 i0 (.bool false) (by kernel_rfl) hi hz0 .i64 .i64 0 xs.length (by omega) (by omega) (by rw [hz2]; omega) (by omega)
      rw [hz1] at hmk
      have hmk' : (Instr.makeSlice 24 (.int .i64 0) (.int .i64 xs.length)).run Try.prog w1 = .ok (.slice (some ⟨w1.heap.size, 0, none⟩) 0 xs.length) (w1.alloc (.cells (madeCells #[.bool false] xs.length) 4)) := by
        rw [hmk]; simp [Value.cells]
      clear hmk
      have HST : Hid (GrB (w1.alloc (.cells (madeCells #[.bool false] xs.length) 4)) w.heap.size (.slice (some ⟨w1.heap.size, 0, none⟩) 0 xs.length) []) := Lib.hid (GrB.made _ _ _ _ B1.out.size (by unfold maxLen; omega) (by simp [madeCells]))
      go_wp2
      clear hmk'
      go_loopw [8, 9, 28] (fun v a i wr => ∃ k : Nat, k ≤ xs.length ∧ i = .int .i64 k ∧ a = .bool (apS xs up down k) ∧ Hid (GrB wr w.heap.size v (apL xs up down k)) ∧ Hid (fins xs k = true) ∧ Hid (Below w.heap.size w wr)) (fun _ _ i _ => xs.length - (intOf i).toNat)
      case atStart => exact ⟨0, Nat.zero_le _, rfl, rfl, HST, Lib.hid rfl, Lib.hid (B1.out.alloc B1.out.size _)⟩
      case round =>
        obtain ⟨k, hk, rfl, rfl, HG, hv, HB⟩ := hrel
        by_cases hlt : k < xs.length
        · have hF := HF.out.below HB.out
          obtain ⟨b, off, rfl, hb, hc⟩ := hF.at_ hlt
          have hS : Hid (fins xs (k + 1) = fin .f32 (xs.getD k 0)) := Lib.hid (by show (fins xs k && _) = _; rw [hv.out]; rfl)
          have hno : Hid (fin .f32 (xs.getD k 0) = false → runO xs up down = false) := Lib.hid fun hh => by
            unfold runO
            cases hf : fins xs xs.length
            · simp
            · rw [fins_yes hf k hlt] at hh; cases hh
          have HL : Hid ((apL xs up down k).length = k) := Lib.hid (apL_len _ _ _ _)
          have HSN : Hid (apL xs up down k ++ [apS xs up down (k + 1)] = apL xs up down (k + 1)) := Lib.hid (apL_snoc _ _ _ _).symm
          have HA1 : Hid (apS xs up down (k + 1) = apartB (apS xs up down k) (xs.getD k 0) up down) := rfl
          clear hb hF
          generalize xs.getD k 0 = x at hc hS hno HA1
          generalize ha1 : apS xs up down (k + 1) = a1 at HSN HA1
          generalize apS xs up down k = a0 at HA1
          cases hx : fin .f32 x
          · have HO := Lib.hid (hno.out hx)
            have hso : stepO x up down = false := by unfold stepO; rw [hx]; rfl
            go_wp2_with fail
            refine (i_StepApart a0 x up down _).mono ?_
            rintro e w' ⟨n2, rfl, rfl⟩
            rw [hso]
            go_wp2
            refine bodyPost_ret (v := .tuple #[.slice none 0 0, .bool false]) (by simp [results, Try.results8, go_sem]) rfl (by first | exact ⟨none, 0, 0, by unfold runL; rw [HO.out]; rfl, .inl (by unfold runL; rw [HO.out]; rfl), below_draws HB.out _⟩ | exact ⟨none, ⟨0, by unfold runL; rw [HO.out]; rfl⟩, ⟨0, .inl (by unfold runL; rw [HO.out]; rfl)⟩, below_draws HB.out _⟩)
          · have hX := Lib.hid hx; clear hx
            have hso : stepO x up down = true := by unfold stepO; rw [hX.out, HE.out]; rfl
            have hsr : stepR a0 x up down = a1 := by unfold stepR; rw [hso, HA1.out]; rfl
            go_wp2_with fail
            refine (i_StepApart a0 x up down _).mono ?_
            rintro e w' ⟨n2, rfl, rfl⟩
            rw [hso, hsr]
            clear hso hsr
            have HG2 := Lib.hid (HG.out.draws n2)
            have HB2 : Hid (Below w.heap.size w (wr.drewN n2)) := Lib.hid (below_draws HB.out _)
            have HN : Hid (fins xs (k + 1) = true) := Lib.hid (by rw [hS.out]; exact hX.out)
            have hown := HG2.out
            unfold GrB at hown
            go_wp2_with (first
              | (at_builtin; refine wpList_append_own _ rfl _ _ 24 rfl w.heap.size 4 i0 (.bool false) 1 1 Try.underlying24 hi hz0 hz1 hz2 rfl (by decide) _ _ _ rfl (hown.alloc _) ⟨_, 0, none⟩ 1 1 [.bool a1] rfl rfl ?c1 ?c2 ?c3 ?c4 ?c5 ?_)
              | fail)
            case c1 =>
              intro j u hj
              match j, hj with
              | 0, hj => simp at hj; subst hj; exact ((blkL_at (wr.drewN n2) #[.bool a1] 4 rfl).2 0 _ rfl).1
            case c2 => intro u hu; simp at hu; subst hu; rfl
            case c3 => have := HL.out; unfold maxLen; omega
            case c4 => have := HL.out; omega
            case c5 => have := HB.out.size; simp; omega
            · intro v' w3 hown' hgrow _
              obtain ⟨g2, b2⟩ := GrB.next HG2.out HB2.out (Nat.le_refl _) hown' hgrow
              have HG3 := Lib.hid g2
              have HB3 := Lib.hid b2
              rw [HSN.out] at HG3
              clear g2 b2 hown hown' hgrow
              go_wp2
              go_roundw
              case rel => exact ⟨k + 1, by omega, by go_num, by rw [ha1], HG3, HN, HB3⟩
              case measure => simp [intOf]; omega
        · have hkk : k = xs.length := by omega
          subst hkk
          have HO : Hid (runO xs up down = true) := Lib.hid (by unfold runO; rw [decide_eq_true h256, HE.out, hv.out]; rfl)
          have HR : Hid (runL xs up down = apL xs up down xs.length) := Lib.hid (by unfold runL; rw [HO.out]; rfl)
          obtain ⟨A2, c2, b2, rfl, ho⟩ := HG.out.own
          go_wp2
          refine bodyPost_ret (v := .tuple #[.slice A2 (apL xs up down xs.length).length c2, .bool true]) (by simp [results, Try.results8, go_sem]) rfl (by first | exact ⟨A2, c2, b2, by rw [HO.out, HR.out], by rw [HR.out]; exact ho, HB.out⟩ | exact ⟨A2, ⟨c2, by rw [HO.out, HR.out]⟩, ⟨b2, by rw [HR.out]; exact ho⟩, HB.out⟩)
  · have HO : Hid (runO xs up down = false) := Lib.hid (by unfold runO; rw [decide_eq_false h256]; rfl)
    rw [HO.out]
    go_enter Try.func8, Try.ntmps8
    go_wp2
    refine bodyPost_ret (v := .tuple #[.slice none 0 0, .bool false]) (by simp [results, Try.results8, go_sem]) rfl (by first | exact ⟨none, 0, 0, by unfold runL; rw [HO.out]; rfl, .inl (by unfold runL; rw [HO.out]; rfl), Below.refl _ _⟩ | exact ⟨none, ⟨0, by unfold runL; rw [HO.out]; rfl⟩, ⟨0, .inl (by unfold runL; rw [HO.out]; rfl)⟩, Below.refl _ _⟩)
set_option maxHeartbeats 8000000 in
set_option maxRecDepth 100000 in
theorem s_RunApart (A : Option Addr) (cap : Nat) (xs : List Nat) (up down : Nat) (w : World) (h : Fl w A xs) (_hn : xs.length ≤ 1048576) :
    Calls Try.prog 6 #[.slice A xs.length cap, .float .f32 up, .float .f32 down] w fun e w' => ∃ A' c b, e = .returned (.tuple #[.slice A' (runL xs up down).length c, .bool (runO xs up down)]) ∧ OwnOB w' w.heap.size A' b (runL xs up down) ∧ Below w.heap.size w w' := by
  have HF := Lib.hid h; clear h
  obtain ⟨i0, hi, hz0, hz1, hz2⟩ := info_parts bool_info
  by_cases h256 : xs.length ≤ 256
  · cases he : edges up down
    · have HO : Hid (runO xs up down = false) := Lib.hid (by unfold runO; rw [he]; simp)
      rw [HO.out]
      go_enter Try.func6, Try.ntmps6
      go_wp2_with fail
      refine (s_l01Few_yes A _ cap _ h256).mono ?_
      rintro e w' ⟨rfl, hw0⟩
      rw [hw0]
      clear hw0 w'
      go_wp2_with fail
      refine (s_l02Edges _ _ _).mono ?_
      rintro e w' ⟨n, rfl, rfl⟩
      rw [he]
      go_wp2
      refine bodyPost_ret (v := .tuple #[.slice none 0 0, .bool false]) (by simp [results, Try.results6, go_sem]) rfl (by first | exact ⟨none, 0, 0, by unfold runL; rw [HO.out]; rfl, .inl (by unfold runL; rw [HO.out]; rfl), below_draws (Below.refl _ _) _⟩ | exact ⟨none, ⟨0, by unfold runL; rw [HO.out]; rfl⟩, ⟨0, .inl (by unfold runL; rw [HO.out]; rfl)⟩, below_draws (Below.refl _ _) _⟩)
    · have HE := Lib.hid he; clear he
      go_enter Try.func6, Try.ntmps6
      go_wp2_with fail
      refine (s_l01Few_yes A _ cap _ h256).mono ?_
      rintro e w' ⟨rfl, hw0⟩
      rw [hw0]
      clear hw0 w'
      go_wp2_with fail
      refine (s_l02Edges _ _ _).mono ?_
      rintro e w1 ⟨n, rfl, hw⟩
      have B1 : Hid (Below w.heap.size w w1) := Lib.hid (by rw [hw]; exact below_draws (Below.refl _ _) _)
      clear hw
      rw [HE.out]
      have HST : Hid (GrB (w1.alloc (.cells #[] 4)) w.heap.size (.slice (some ⟨w1.heap.size, 0, none⟩) 0 0) []) := Lib.hid (GrB.made _ _ 0 #[] B1.out.size (by unfold maxLen; omega) rfl)
      go_wp2
      go_loopw [8, 9, 10] (fun v a i wr => ∃ k : Nat, k ≤ xs.length ∧ i = .int .i64 k ∧ a = .bool (apS xs up down k) ∧ Hid (GrB wr w.heap.size v (apL xs up down k)) ∧ Hid (fins xs k = true) ∧ Hid (Below w.heap.size w wr)) (fun _ _ i _ => xs.length - (intOf i).toNat)
      case atStart => exact ⟨0, Nat.zero_le _, rfl, rfl, HST, Lib.hid rfl, Lib.hid (B1.out.alloc B1.out.size _)⟩
      case round =>
        obtain ⟨k, hk, rfl, rfl, HG, hv, HB⟩ := hrel
        by_cases hlt : k < xs.length
        · have hF := HF.out.below HB.out
          obtain ⟨b, off, rfl, hb, hc⟩ := hF.at_ hlt
          have hS : Hid (fins xs (k + 1) = fin .f32 (xs.getD k 0)) := Lib.hid (by show (fins xs k && _) = _; rw [hv.out]; rfl)
          have hno : Hid (fin .f32 (xs.getD k 0) = false → runO xs up down = false) := Lib.hid fun hh => by
            unfold runO
            cases hf : fins xs xs.length
            · simp
            · rw [fins_yes hf k hlt] at hh; cases hh
          have HL : Hid ((apL xs up down k).length = k) := Lib.hid (apL_len _ _ _ _)
          have HSN : Hid (apL xs up down k ++ [apS xs up down (k + 1)] = apL xs up down (k + 1)) := Lib.hid (apL_snoc _ _ _ _).symm
          have HA1 : Hid (apS xs up down (k + 1) = apartB (apS xs up down k) (xs.getD k 0) up down) := rfl
          clear hb hF
          generalize xs.getD k 0 = x at hc hS hno HA1
          generalize ha1 : apS xs up down (k + 1) = a1 at HSN HA1
          generalize apS xs up down k = a0 at HA1
          cases hx : fin .f32 x
          · have HO := Lib.hid (hno.out hx)
            go_wp2_with fail
            refine (s_l01Finite _ _).mono ?_
            rintro e w' ⟨n2, rfl, rfl⟩
            rw [hx]
            go_wp2
            refine bodyPost_ret (v := .tuple #[.slice none 0 0, .bool false]) (by simp [results, Try.results6, go_sem]) rfl (by first | exact ⟨none, 0, 0, by unfold runL; rw [HO.out]; rfl, .inl (by unfold runL; rw [HO.out]; rfl), below_draws HB.out _⟩ | exact ⟨none, ⟨0, by unfold runL; rw [HO.out]; rfl⟩, ⟨0, .inl (by unfold runL; rw [HO.out]; rfl)⟩, below_draws HB.out _⟩)
          · have hX := Lib.hid hx; clear hx
            go_wp2_with fail
            refine (s_l01Finite _ _).mono ?_
            rintro e w' ⟨n2, rfl, rfl⟩
            rw [hX.out]
            go_wp2_with fail
            refine (s_l02Apart a0 x up down _).mono ?_
            rintro e w' ⟨rfl, rfl⟩
            rw [← HA1.out]
            have HG2 := Lib.hid (HG.out.draws n2)
            have HB2 : Hid (Below w.heap.size w (wr.drewN n2)) := Lib.hid (below_draws HB.out _)
            have HN : Hid (fins xs (k + 1) = true) := Lib.hid (by rw [hS.out]; exact hX.out)
            have hown := HG2.out
            unfold GrB at hown
            go_wp2_with (first
              | (at_builtin; refine wpList_append_own _ rfl _ _ 24 rfl w.heap.size 4 i0 (.bool false) 1 1 Try.underlying24 hi hz0 hz1 hz2 rfl (by decide) _ _ _ rfl (hown.alloc _) ⟨_, 0, none⟩ 1 1 [.bool a1] rfl rfl ?c1 ?c2 ?c3 ?c4 ?c5 ?_)
              | fail)
            case c1 =>
              intro j u hj
              match j, hj with
              | 0, hj => simp at hj; subst hj; exact ((blkL_at (wr.drewN n2) #[.bool a1] 4 rfl).2 0 _ rfl).1
            case c2 => intro u hu; simp at hu; subst hu; rfl
            case c3 => have := HL.out; unfold maxLen; omega
            case c4 => have := HL.out; omega
            case c5 => have := HB.out.size; simp; omega
            · intro v' w3 hown' hgrow _
              obtain ⟨g2, b2⟩ := GrB.next HG2.out HB2.out (Nat.le_refl _) hown' hgrow
              have HG3 := Lib.hid g2
              have HB3 := Lib.hid b2
              rw [HSN.out] at HG3
              clear g2 b2 hown hown' hgrow
              go_wp2
              go_roundw
              case rel => exact ⟨k + 1, by omega, by go_num, by rw [ha1], HG3, HN, HB3⟩
              case measure => simp [intOf]; omega
        · have hkk : k = xs.length := by omega
          subst hkk
          have HO : Hid (runO xs up down = true) := Lib.hid (by unfold runO; rw [decide_eq_true h256, HE.out, hv.out]; rfl)
          have HR : Hid (runL xs up down = apL xs up down xs.length) := Lib.hid (by unfold runL; rw [HO.out]; rfl)
          obtain ⟨A2, c2, b2, rfl, ho⟩ := HG.out.own
          go_wp2
          refine bodyPost_ret (v := .tuple #[.slice A2 (apL xs up down xs.length).length c2, .bool true]) (by simp [results, Try.results6, go_sem]) rfl (by first | exact ⟨A2, c2, b2, by rw [HO.out, HR.out], by rw [HR.out]; exact ho, HB.out⟩ | exact ⟨A2, ⟨c2, by rw [HO.out, HR.out]⟩, ⟨b2, by rw [HR.out]; exact ho⟩, HB.out⟩)
  · have HO : Hid (runO xs up down = false) := Lib.hid (by unfold runO; rw [decide_eq_false h256]; rfl)
    rw [HO.out]
    go_enter Try.func6, Try.ntmps6
    go_wp2_with fail
    refine (s_l01Few_no A _ cap _ (by omega)).mono ?_
    rintro e w' ⟨rfl, hw0⟩
    rw [hw0]
    clear hw0 w'
    go_wp2
    refine bodyPost_ret (v := .tuple #[.slice none 0 0, .bool false]) (by simp [results, Try.results6, go_sem]) rfl (by first | exact ⟨none, 0, 0, by unfold runL; rw [HO.out]; rfl, .inl (by unfold runL; rw [HO.out]; rfl), Below.refl _ _⟩ | exact ⟨none, ⟨0, by unfold runL; rw [HO.out]; rfl⟩, ⟨0, .inl (by unfold runL; rw [HO.out]; rfl)⟩, Below.refl _ _⟩)
end Go.Proofs.Ytdjnooekjjjliaa
