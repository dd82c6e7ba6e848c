/- The same profiles. No statement is proved here. -/
import Derived.Test.YtiiiigldpbomkaaVal
namespace Go.Proofs.Ytiiiigldpbomkaa
open Go Go.RowKit

def sameAt (xs ys : List Nat) (k : Nat) : Bool := decide (canon .f32 (xs.getD k 0) = canon .f32 (ys.getD k 0))
def sameN (xs ys : List Nat) : Nat → Bool
  | 0 => true
  | k + 1 => sameN xs ys k && sameAt xs ys k
def sameL (xs ys : List Nat) : Bool := decide (xs.length = ys.length) && sameN xs ys xs.length
def Words (xs : List Nat) : Prop := ∀ k, k < xs.length → canon .f32 (xs.getD k 0) < 4294967296
theorem words_of {xs : List Nat} (h : ∀ x ∈ xs, x < words .f32) : Words xs := by
  intro k hk
  refine canon_lt (h _ ?_)
  rw [List.getD_eq_getElem?_getD, List.getElem?_eq_getElem hk]
  exact List.getElem_mem hk
theorem sameN_no {xs ys : List Nat} {k n : Nat} (h : sameN xs ys k = false) (hk : k ≤ n) : sameN xs ys n = false := by
  induction n with
  | zero => rw [show k = 0 by omega] at h; exact h
  | succ n ih =>
    by_cases e : k = n + 1
    · rw [← e]; exact h
    · simp only [sameN, ih (by omega), Bool.false_and]
/-- a quiet call behind draws that are counted already -/
theorem quiet_more {P : Program} {f : FuncId} {args : Array Value} {w : World} {a n : Nat} {v : Value} (h : Calls P f args (w.drewN (a + n)) fun e w' => e = .returned v ∧ ∃ m, w' = (w.drewN (a + n)).drewN m) :
    Calls P f args (w.drewN (a + n)) fun e w'' => e = .returned v ∧ ∃ m, w'' = w.drewN (a + m) := by
  refine h.mono ?_
  rintro e w' ⟨he, m, hm⟩
  exact ⟨he, n + m, by rw [hm, World.drewN_drewN, Nat.add_assoc]⟩
set_option maxHeartbeats 4000000 in
theorem s_l01SameAll (A B : Option Addr) (ca cb : Nat) (xs ys : List Nat) (w : World) (h : Fl w A xs) (h' : Fl w B ys) (hw : Words xs) (hw' : Words ys) (hn : xs.length ≤ 1048576) :
    Calls Try.prog 179 #[.slice A xs.length ca, .slice B ys.length cb] w fun e w' => e = .returned (.bool (sameL xs ys)) ∧ ∃ n, w' = w.drewN n := by
  have HW := Lib.hid hw; clear hw
  have HW' := Lib.hid hw'; clear hw'
  by_cases hl : xs.length = ys.length
  · have HL : Hid (sameL xs ys = sameN xs ys xs.length) := Lib.hid (by unfold sameL; rw [decide_eq_true hl]; rfl)
    have e1 : ((xs.length : Int) != (ys.length : Int)) = false := by simp; omega
    have hl1 : xs.length ≤ ys.length := by omega
    have hl2 : ys.length ≤ xs.length := by omega
    clear hl
    go_enter Try.func179, Try.ntmps179
    go_wp2
    clear e1
    go_loopw [5] (fun i wr => ∃ k n : Nat, k ≤ xs.length ∧ i = .int .i64 k ∧ Hid (sameN xs ys k = true) ∧ wr = w.drewN n) (fun i _ => xs.length - (intOf i).toNat)
    case atStart => exact ⟨0, 0, Nat.zero_le _, rfl, rfl, rfl⟩
    case round =>
      obtain ⟨k, n, hk, rfl, hr, rfl⟩ := hrel
      by_cases hlt : k < xs.length
      · obtain ⟨b, off, rfl, hb, hc⟩ := h.at_ hlt
        obtain ⟨b', off', rfl, hb', hc'⟩ := h'.at_ (show k < ys.length by omega)
        have HF := Lib.hid h
        have HF' := Lib.hid h'
        clear h h' hb hb'
        have HS : Hid (sameN xs ys (k + 1) = sameAt xs ys k) := Lib.hid (by show (sameN xs ys k && _) = _; rw [hr.out]; rfl)
        have HX := Lib.hid (HW.out k hlt)
        have HY := Lib.hid (HW'.out k (by omega))
        have HE : Hid (sameAt xs ys k = decide (canon .f32 (xs.getD k 0) = canon .f32 (ys.getD k 0))) := rfl
        generalize xs.getD k 0 = x at hc HX HE
        generalize ys.getD k 0 = y at hc' HY HE
        have hlt2 : k < ys.length := by omega
        cases hq : (decide (canon .f32 x = canon .f32 y))
        · have HB : Hid (sameL xs ys = false) := Lib.hid (by rw [HL.out]; exact sameN_no (k := k + 1) (by rw [HS.out, HE.out, hq]) (by omega))
          go_wp2_with fail
          go_quiet ((go_at_call 177; refine quiet_more (v := .bool false) ((s_l01Same x y _ HX.out HY.out).mono ?_); rintro e w' ⟨rfl, rfl⟩; exact ⟨by rw [hq], 0, rfl⟩))
          go_wp2
          go_ret
          exact ⟨by rw [HB.out]; rfl, _, by first | rfl | exact World.drewN_drewN ..⟩
        · have HG : Hid (sameN xs ys (k + 1) = true) := Lib.hid (by rw [HS.out, HE.out, hq])
          go_wp2_with fail
          go_quiet ((go_at_call 177; refine quiet_more (v := .bool true) ((s_l01Same x y _ HX.out HY.out).mono ?_); rintro e w' ⟨rfl, rfl⟩; exact ⟨by rw [hq], 0, rfl⟩))
          go_wp2
          go_roundw
          case rel => exact ⟨k + 1, _, by omega, by go_num, HG, rfl⟩
          case measure => simp [intOf]; omega
      · have hkk : k = xs.length := by omega
        have HB : Hid (sameL xs ys = true) := Lib.hid (by rw [HL.out, ← hkk]; exact hr.out)
        clear h h'
        go_wp2
        go_ret
        exact ⟨by rw [HB.out]; rfl, _, rfl⟩
  · have HB : Hid (sameL xs ys = false) := Lib.hid (by unfold sameL; rw [decide_eq_false hl]; rfl)
    have e1 : ((xs.length : Int) != (ys.length : Int)) = true := by rw [bne_iff_ne]; omega
    clear hl
    go_enter Try.func179, Try.ntmps179
    go_wp2
    go_ret
    exact ⟨by rw [HB.out]; rfl, 0, rfl⟩
set_option maxHeartbeats 4000000 in
theorem i_EqualSame (A B : Option Addr) (ca cb : Nat) (xs ys : List Nat) (w : World) (h : Fl w A xs) (h' : Fl w B ys) (hw : Words xs) (hw' : Words ys) (hn : xs.length ≤ 1048576) :
    Calls Try.prog 186 #[.slice A xs.length ca, .slice B ys.length cb, .func (.func 184) #[] #[]] w fun e w' => e = .returned (.bool (sameL xs ys)) ∧ ∃ n, w' = w.drewN n := by
  have HW := Lib.hid hw; clear hw
  have HW' := Lib.hid hw'; clear hw'
  by_cases hl : xs.length = ys.length
  · have HL : Hid (sameL xs ys = sameN xs ys xs.length) := Lib.hid (by unfold sameL; rw [decide_eq_true hl]; rfl)
    have e1 : ((xs.length : Int) != (ys.length : Int)) = false := by simp; omega
    have hl1 : xs.length ≤ ys.length := by omega
    have hl2 : ys.length ≤ xs.length := by omega
    clear hl
    go_enter Try.func186, Try.ntmps186
    go_wp2
    clear e1
    go_loopw [17] (fun i wr => ∃ k n : Nat, k ≤ xs.length ∧ i = .int .i64 k ∧ Hid (sameN xs ys k = true) ∧ wr = w.drewN n) (fun i _ => xs.length - (intOf i).toNat)
    case atStart => exact ⟨0, 0, Nat.zero_le _, rfl, rfl, rfl⟩
    case round =>
      obtain ⟨k, n, hk, rfl, hr, rfl⟩ := hrel
      by_cases hlt : k < xs.length
      · obtain ⟨b, off, rfl, hb, hc⟩ := h.at_ hlt
        obtain ⟨b', off', rfl, hb', hc'⟩ := h'.at_ (show k < ys.length by omega)
        have HF := Lib.hid h
        have HF' := Lib.hid h'
        clear h h' hb hb'
        have HS : Hid (sameN xs ys (k + 1) = sameAt xs ys k) := Lib.hid (by show (sameN xs ys k && _) = _; rw [hr.out]; rfl)
        have HX := Lib.hid (HW.out k hlt)
        have HY := Lib.hid (HW'.out k (by omega))
        have HE : Hid (sameAt xs ys k = decide (canon .f32 (xs.getD k 0) = canon .f32 (ys.getD k 0))) := rfl
        generalize xs.getD k 0 = x at hc HX HE
        generalize ys.getD k 0 = y at hc' HY HE
        have hlt2 : k < ys.length := by omega
        go_wp2_with fail
        refine (i_SameNumber x y _ HX.out HY.out).mono ?_
        rintro e w' ⟨m, rfl, rfl⟩
        cases hq : (decide (canon .f32 x = canon .f32 y))
        · have HB : Hid (sameL xs ys = false) := Lib.hid (by rw [HL.out]; exact sameN_no (k := k + 1) (by rw [HS.out, HE.out, hq]) (by omega))
          clear hq
          go_wp2
          go_ret
          exact ⟨by rw [HB.out]; rfl, _, by first | rfl | exact World.drewN_drewN ..⟩
        · have HG : Hid (sameN xs ys (k + 1) = true) := Lib.hid (by rw [HS.out, HE.out, hq])
          clear hq
          go_wp2
          go_roundw
          case rel => exact ⟨k + 1, _, by omega, by go_num, HG, rfl⟩
          case measure => simp [intOf]; omega
      · have hkk : k = xs.length := by omega
        have HB : Hid (sameL xs ys = true) := Lib.hid (by rw [HL.out, ← hkk]; exact hr.out)
        clear h h'
        go_wp2
        go_ret
        exact ⟨by rw [HB.out]; rfl, _, rfl⟩
  · have HB : Hid (sameL xs ys = false) := Lib.hid (by unfold sameL; rw [decide_eq_false hl]; rfl)
    have e1 : ((xs.length : Int) != (ys.length : Int)) = true := by rw [bne_iff_ne]; omega
    clear hl
    go_enter Try.func186, Try.ntmps186
    go_wp2
    go_ret
    exact ⟨by rw [HB.out]; rfl, 0, rfl⟩
def sameP (a l d a' l' d' : List Nat) : Bool := sameL a a' && (sameL l l' && sameL d d')
def Pair (w : World) (A A' : Option Addr) (xs ys : List Nat) : Prop := Fl w A xs ∧ Fl w A' ys ∧ Words xs ∧ Words ys ∧ xs.length ≤ 1048576
def WordsP (a l d : List Nat) : Prop := Words a ∧ Words l ∧ Words d
set_option maxHeartbeats 8000000 in
theorem i_SameProfile (A L D A' L' D' : Option Addr) (ca cl cd ca' cl' cd' : Nat) (a l d a' l' d' : List Nat) (w : World) (h : Pf w A L D a l d) (h' : Pf w A' L' D' a' l' d') (hn : Few a l d) (hw : WordsP a l d) (hw' : WordsP a' l' d') :
    Calls Try.prog 181 #[.agg #[.slice A a.length ca, .slice L l.length cl, .slice D d.length cd], .agg #[.slice A' a'.length ca', .slice L' l'.length cl', .slice D' d'.length cd']] w fun e w' => e = .returned (.bool (sameP a l d a' l' d')) ∧ Below w.heap.size w w' := by
  unfold Few at hn
  have HP := Lib.hid h; clear h
  have HP' := Lib.hid h'; clear h'
  have HW := Lib.hid hw; clear hw
  have HW' := Lib.hid hw'; clear hw'
  have HB : ∀ o1 o2, Hid (Below w.heap.size w ((w.alloc o1).alloc o2)) := fun _ _ => Lib.hid (((Below.refl _ _).alloc (Nat.le_refl _) _).alloc (by simp) _)
  cases c1 : sameL a a'
  · have C1 := Lib.hid c1; clear c1
    go_enter Try.func181, Try.ntmps181
    go_wp2_with fail
    refine (i_EqualSame A A' ca ca' a a' _ (HP.out.1.below (HB _ _).out) (HP'.out.1.below (HB _ _).out) HW.out.1 HW'.out.1 (by omega)).mono ?_
    rintro e w1 ⟨rfl, n1, rfl⟩
    rw [C1.out]
    go_wp2
    go_ret
    exact ⟨by unfold sameP; rw [C1.out]; rfl, below_draws (HB _ _).out _⟩
  · have C1 := Lib.hid c1; clear c1
    cases c2 : sameL l l'
    all_goals
      have C2 := Lib.hid c2; clear c2
      go_enter Try.func181, Try.ntmps181
      go_wp2_with fail
      refine (i_EqualSame A A' ca ca' a a' _ (HP.out.1.below (HB _ _).out) (HP'.out.1.below (HB _ _).out) HW.out.1 HW'.out.1 (by omega)).mono ?_
      rintro e w1 ⟨rfl, n1, rfl⟩
      rw [C1.out]
      go_wp2_with fail
      refine (i_EqualSame L L' cl cl' l l' _ (HP.out.2.1.below (below_draws (HB _ _).out _)) (HP'.out.2.1.below (below_draws (HB _ _).out _)) HW.out.2.1 HW'.out.2.1 (by omega)).mono ?_
      rintro e w1 ⟨rfl, n2, rfl⟩
      rw [C2.out]
    · go_wp2
      go_ret
      exact ⟨by unfold sameP; rw [C1.out, C2.out]; rfl, below_draws (HB _ _).out _⟩
    · go_wp2_with fail
      refine (i_EqualSame D D' cd cd' d d' _ (HP.out.2.2.below (below_draws (HB _ _).out _)) (HP'.out.2.2.below (below_draws (HB _ _).out _)) HW.out.2.2 HW'.out.2.2 (by omega)).mono ?_
      rintro e w1 ⟨rfl, n3, rfl⟩
      go_wp2
      go_ret
      exact ⟨by unfold sameP; rw [C1.out, C2.out]; simp, below_draws (HB _ _).out _⟩
end Go.Proofs.Ytiiiigldpbomkaa
