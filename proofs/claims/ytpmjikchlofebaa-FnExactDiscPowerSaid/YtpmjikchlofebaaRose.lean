/- Roses: what is valid, how the laws copy and compare them. No statement is proved here. -/
import Derived.Test.YtpmjikchlofebaaWin
namespace Go.Proofs.Ytpmjikchlofebaa
open Go Go.RowKit
/-- a rose in memory: its two lists -/
def Rs (w : World) (A L : Option Addr) (a l : List Nat) : Prop := Fl w A a ∧ Fl w L l
theorem Rs.below {w w' : World} {A L : Option Addr} {a l : List Nat} (h : Rs w A L a l) (hb : Below w.heap.size w w') : Rs w' A L a l := ⟨h.1.below hb, h.2.below hb⟩
theorem Rs.draws {w : World} {A L : Option Addr} {a l : List Nat} (h : Rs w A L a l) (n : Nat) : Rs (w.drewN n) A L a l := h
def FewS (a l : List Nat) : Prop := a.length + l.length ≤ 1048576
def sizedS (a l : List Nat) : Prop := 1 ≤ a.length ∧ a.length ≤ 16 ∧ l.length = a.length
instance (a l : List Nat) : Decidable (sizedS a l) := by unfold sizedS; infer_instance
/-- a valid rose -/
def rosV (a l : List Nat) : Bool := decide (sizedS a l) && (amts a a.length && amts l l.length)
theorem rosV_no {a l : List Nat} (h : ¬ sizedS a l) : rosV a l = false := by unfold rosV; rw [decide_eq_false h]; rfl
theorem rosV_yes {a l : List Nat} (h : sizedS a l) : rosV a l = (amts a a.length && amts l l.length) := by unfold rosV; rw [decide_eq_true h]; rfl
theorem rosV_sized {a l : List Nat} (h : rosV a l = true) : sizedS a l := by unfold rosV at h; rw [Bool.and_eq_true] at h; exact of_decide_eq_true h.1
theorem rosV_amts {a l : List Nat} (h : rosV a l = true) : amts a a.length = true ∧ amts l l.length = true := by unfold rosV at h; simp only [Bool.and_eq_true] at h; exact h.2
/-- both lists, one knot after another -/
def two (a l : List Nat) : Nat → Bool
  | 0 => true
  | k + 1 => two a l k && (amount (a.getD k 0) && amount (l.getD k 0))
theorem two_eq (a l : List Nat) (n : Nat) : two a l n = (amts a n && amts l n) := by
  induction n with
  | zero => rfl
  | succ n ih =>
    simp only [two, amts, ih]
    cases amts a n <;> cases amts l n <;> cases amount (a.getD n 0) <;> simp
theorem two_no {a l : List Nat} {k n : Nat} (h : two a l k = false) (hk : k ≤ n) : two a l n = false := by
  induction n with
  | zero => rw [show k = 0 by omega] at h; exact h
  | succ n ih =>
    by_cases e : k = n + 1
    · rw [← e]; exact h
    · simp only [two, ih (by omega), Bool.false_and]
theorem rosV_two {a l : List Nat} (h : sizedS a l) : rosV a l = two a l a.length := by rw [rosV_yes h, two_eq, h.2.2]
theorem amts_at {xs : List Nat} {n : Nat} (h : amts xs n = true) : ∀ j, j < n → amount (xs.getD j 0) = true := by
  induction n with
  | zero => intro j hj; omega
  | succ n ih =>
    intro j hj
    simp only [amts, Bool.and_eq_true] at h
    by_cases e : j = n
    · rw [e]; exact h.2
    · exact ih h.1 j (by omega)
theorem fin_of_amount {x : Nat} (h : amount x = true) : fin .f32 x = true := by unfold amount at h; rw [Bool.and_eq_true] at h; exact h.1
/-- two lists in new memory -/
def OwnS (w : World) (B b1 b2 : Nat) (a l : List Nat) : Prop := B ≤ b1 ∧ b1 < b2 ∧ Own w b1 a ∧ Own w b2 l
theorem OwnS.rs {w : World} {B b1 b2 : Nat} {a l : List Nat} (h : OwnS w B b1 b2 a l) : Rs w (some ⟨b1, 0, none⟩) (some ⟨b2, 0, none⟩) a l := ⟨h.2.2.1.fl, h.2.2.2.fl⟩
theorem OwnS.below {w w' : World} {B b1 b2 : Nat} {a l : List Nat} (h : OwnS w B b1 b2 a l) (hb : Below w.heap.size w w') : OwnS w' B b1 b2 a l := ⟨h.1, h.2.1, h.2.2.1.below hb, h.2.2.2.below hb⟩
theorem OwnS.draws {w : World} {B b1 b2 : Nat} {a l : List Nat} (h : OwnS w B b1 b2 a l) (n : Nat) : OwnS (w.drewN n) B b1 b2 a l := h
def secB (c : Int) : Bool := decide (1 ≤ c ∧ c ≤ 16)
theorem i_isSectorCount (c : Int) (w : World) :
    Calls Try.prog 80 #[.int .i64 c] w fun e w' => e = .returned (.bool (secB c)) ∧ w' = w := by
  by_cases h : 1 ≤ c
  · go_enter Try.func80, Try.ntmps80
    go_wp2
    go_ret
    exact ⟨by simp [secB, h], rfl⟩
  · go_enter Try.func80, Try.ntmps80
    go_wp2
    go_ret
    exact ⟨by simp [secB]; omega, rfl⟩
theorem l_szRose_yes (A L : Option Addr) (na ca nl cl : Nat) (left : Int) (w : World) (h : (na : Int) + nl ≤ left) (hl : left ≤ 1048576) :
    Calls Try.prog 23 #[.agg #[.slice A na ca, .slice L nl cl], .int .i64 left] w fun e w' => e = .returned (.int .i64 (left - na - nl)) ∧ Below w.heap.size w w' := by
  go_enter Try.func23, Try.ntmps23
  go_wp2_with fail
  refine (l_szF32_yes _ _ _ _ _ (by omega) (by omega)).mono ?_
  rintro e w' ⟨rfl, rfl⟩
  go_wp2_with fail
  refine (l_szF32_yes _ _ _ _ _ (by omega) (by omega)).mono ?_
  rintro e w' ⟨rfl, rfl⟩
  go_wp2
  go_ret
  exact ⟨rfl, (Below.refl _ _).alloc (Nat.le_refl _) _⟩
theorem l_szRose_no (A L : Option Addr) (na ca nl cl : Nat) (left : Int) (w : World) (h : left < (na : Int) + nl) (h0 : 0 ≤ left) (hl : left ≤ 1048576)
    (hna : na ≤ 9223372036854775807) (hnl : nl ≤ 9223372036854775807) :
    Calls Try.prog 23 #[.agg #[.slice A na ca, .slice L nl cl], .int .i64 left] w fun e w' => e = .returned (.int .i64 (-1)) ∧ Below w.heap.size w w' := by
  by_cases h1 : (na : Int) ≤ left
  · go_enter Try.func23, Try.ntmps23
    go_wp2_with fail
    refine (l_szF32_yes _ _ _ _ _ h1 hl).mono ?_
    rintro e w' ⟨rfl, rfl⟩
    go_wp2_with fail
    refine (l_szF32_no _ _ _ _ _ (by omega) (by omega) (by omega) hnl).mono ?_
    rintro e w' ⟨rfl, rfl⟩
    go_wp2
    go_ret
    exact ⟨rfl, (Below.refl _ _).alloc (Nat.le_refl _) _⟩
  · go_enter Try.func23, Try.ntmps23
    go_wp2_with fail
    refine (l_szF32_no _ _ _ _ _ (by omega) h0 hl hna).mono ?_
    rintro e w' ⟨rfl, rfl⟩
    go_wp2
    go_ret
    exact ⟨rfl, (Below.refl _ _).alloc (Nat.le_refl _) _⟩
theorem l_toRose (A L : Option Addr) (ca cl : Nat) (a l : List Nat) (w : World) (h : Rs w A L a l) (hn : FewS a l) :
    Calls Try.prog 26 #[.agg #[.slice A a.length ca, .slice L l.length cl]] w fun e w' => ∃ b1 b2, e = .returned (.agg #[.slice (some ⟨b1, 0, none⟩) a.length a.length, .slice (some ⟨b2, 0, none⟩) l.length l.length]) ∧ OwnS w' w.heap.size b1 b2 a l ∧ Below w.heap.size w w' := by
  unfold FewS at hn
  obtain ⟨hA, hL⟩ := h
  have HA := Lib.hid hA; clear hA
  have HL := Lib.hid hL; clear hL
  go_enter Try.func26, Try.ntmps26
  go_wp2_with fail
  refine (l_toF32N A ca a _ (HA.out.below ((((Below.refl _ _).alloc (Nat.le_refl _) _).alloc (by simp) _).alloc (by simp <;> omega) _)) (by omega)).mono ?_
  rintro e w1 ⟨rfl, h1, b1⟩
  have K0 : Hid (BlkL w1 w.heap.size [_, _]) := Lib.hid (BlkL.below (((blkL_at w #[_, _] _ rfl).alloc _).alloc _) b1)
  have K1 : Hid (BlkL w1 (w.heap.size + 1) [_, _]) := Lib.hid (BlkL.below (w := Go.World.alloc _ _) ((blkL_at (w.alloc _) #[_, _] _ (by simp)).alloc _) b1)
  have K2 : Hid (BlkL w1 (w.heap.size + 1 + 1) [_, _]) := Lib.hid (BlkL.below (w := Go.World.alloc _ _) (blkL_at ((w.alloc _).alloc _) #[_, _] _ (by simp)) b1)
  have hz : w.heap.size + 3 < w1.heap.size := by have := h1.1; simp at this; omega
  have B1 : Hid (Below w.heap.size w w1) := Lib.hid (((((Below.refl _ _).alloc (Nat.le_refl _) _).alloc (by simp) _).alloc (by simp <;> omega) _).trans (b1.mono (by simp <;> omega)))
  have H1 : Hid (Own w1 (w.heap.size + 1 + 1 + 1) a) := Lib.hid (by simpa using h1)
  clear h1 b1
  have k0 := (K0.out.2 1 _ rfl).1
  have k1 := (K2.out.2 0 _ rfl).1
  have k2 := (K2.out.2 0 _ rfl).2
  go_wp2_with fail
  clear k0 k1 k2
  refine (l_toF32N L cl l _ (HL.out.below (B1.out.setCell (p := ⟨w.heap.size + 1 + 1, 0, none⟩) (by show w.heap.size ≤ w.heap.size + 1 + 1; omega) _)) (by omega)).mono ?_
  rintro e w2 ⟨rfl, h2, b2⟩
  have hz2 : w1.heap.size < w2.heap.size := by have := h2.1; simp at this; omega
  have K1' : Hid (BlkL w2 (w.heap.size + 1) [_, _]) := Lib.hid ((K1.out.other (p := ⟨w.heap.size + 1 + 1, 0, none⟩) (by show w.heap.size + 1 + 1 ≠ _; omega) _).below b2)
  have K2' : Hid (BlkL w2 (w.heap.size + 1 + 1) [.slice (some ⟨w.heap.size + 1 + 1 + 1, 0, none⟩) a.length a.length, _]) := Lib.hid ((K2.out.set (i := 0) (by simp) _).below b2)
  have B2 : Hid (Below w.heap.size w w2) := Lib.hid ((B1.out.setCell (p := ⟨w.heap.size + 1 + 1, 0, none⟩) (by show w.heap.size ≤ w.heap.size + 1 + 1; omega) _).trans (b2.mono (by simp <;> omega)))
  have H1' : Hid (Own w2 (w.heap.size + 1 + 1 + 1) a) := Lib.hid (Own.below (w := w1.setCell ⟨w.heap.size + 1 + 1, 0, none⟩ _) (H1.out.setCell (by show w.heap.size + 1 + 1 ≠ _; omega) _) b2)
  have H2 : Hid (Own w2 w1.heap.size l) := Lib.hid (by simpa using h2)
  clear h2 b2 H1 K0 K1 K2
  have k0 := (K1'.out.2 0 _ rfl).1
  have k1 := (K1'.out.2 1 _ rfl).1
  have k2 := (K1'.out.2 0 _ rfl).2
  have k3 := (K1'.out.2 1 _ rfl).2
  have k4 := (K2'.out.2 0 _ rfl).1
  have k5 := (K2'.out.2 1 _ rfl).1
  have k6 := (K2'.out.2 0 _ rfl).2
  have k7 := (K2'.out.2 1 _ rfl).2
  go_wp2
  refine bodyPost_ret (v := .agg #[.slice (some ⟨w.heap.size + 1 + 1 + 1, 0, none⟩) a.length a.length, .slice (some ⟨w1.heap.size, 0, none⟩) l.length l.length]) ?_ rfl ?_
  · simp [results, Try.results26, go_sem, k0, k1]
  · refine ⟨_, _, rfl, ⟨by omega, by omega, ?_, ?_⟩, ?_⟩
    · exact ((H1'.out.setCell (by show w.heap.size + 1 + 1 ≠ _; omega) _).setCell (by show w.heap.size + 1 ≠ _; omega) _).setCell (by show w.heap.size + 1 ≠ _; omega) _
    · exact ((H2.out.setCell (by show w.heap.size + 1 + 1 ≠ _; omega) _).setCell (by show w.heap.size + 1 ≠ _; omega) _).setCell (by show w.heap.size + 1 ≠ _; omega) _
    · exact ((B2.out.setCell (by show w.heap.size ≤ w.heap.size + 1 + 1; omega) _).setCell (by show w.heap.size ≤ w.heap.size + 1; omega) _).setCell (by show w.heap.size ≤ w.heap.size + 1; omega) _
theorem l_eqRose (A L A' L' : Option Addr) (ca cl ca' cl' : Nat) (a l : List Nat) (w : World) (h : Rs w A L a l) (h' : Rs w A' L' a l) (hn : FewS a l) :
    Calls Try.prog 17 #[.agg #[.slice A a.length ca, .slice L l.length cl], .agg #[.slice A' a.length ca', .slice L' l.length cl']] w fun e w' => e = .returned (.bool true) ∧ Below w.heap.size w w' := by
  unfold FewS at hn
  have HB : ∀ o1 o2, Hid (Below w.heap.size w ((w.alloc o1).alloc o2)) := fun _ _ => Lib.hid (((Below.refl _ _).alloc (Nat.le_refl _) _).alloc (by simp) _)
  have HP := Lib.hid h; clear h
  have HP' := Lib.hid h'; clear h'
  go_enter Try.func17, Try.ntmps17
  go_wp2_with fail
  refine (l_eqF32 A A' ca ca' a _ (HP.out.1.below (HB _ _).out) (HP'.out.1.below (HB _ _).out) (by omega)).mono ?_
  rintro e w' ⟨n1, rfl, rfl⟩
  go_wp2_with fail
  refine (l_eqF32 L L' cl cl' l _ (HP.out.2.below (below_draws (HB _ _).out _)) (HP'.out.2.below (below_draws (HB _ _).out _)) (by omega)).mono ?_
  rintro e w' ⟨n2, rfl, rfl⟩
  go_wp2
  go_ret
  exact ⟨rfl, by repeat (first | exact (HB _ _).out | refine below_draws ?_ _)⟩
set_option maxHeartbeats 4000000 in
theorem i_ValidRose (A L : Option Addr) (ca cl : Nat) (a l : List Nat) (w : World) (h : Rs w A L a l) (hn : FewS a l) :
    Calls Try.prog 98 #[.agg #[.slice A a.length ca, .slice L l.length cl]] w fun e w' => e = .returned (.bool (rosV a l)) ∧ Below w.heap.size w w' := by
  unfold FewS at hn
  have HP := Lib.hid h; clear h
  have HB : ∀ o1, Hid (Below w.heap.size w (w.alloc o1)) := fun _ => Lib.hid ((Below.refl _ _).alloc (Nat.le_refl _) _)
  have K0 : ∀ t, Hid (BlkL (w.alloc (.cells #[.slice A a.length ca, .slice L l.length cl] t)) w.heap.size [.slice A a.length ca, .slice L l.length cl]) := fun _ => Lib.hid (blkL_at w #[.slice A a.length ca, .slice L l.length cl] _ rfl)
  have k0 := fun t => ((K0 t).out.2 0 _ rfl).1
  have k1 := fun t => ((K0 t).out.2 1 _ rfl).1
  by_cases hs : 1 ≤ a.length ∧ a.length ≤ 16
  · have hb : secB (a.length : Int) = true := by unfold secB; rw [decide_eq_true (by omega)]
    by_cases h3 : l.length = a.length
    · have e1 : ((l.length : Int) == (a.length : Int)) = true := by simp; omega
      have HY : Hid (rosV a l = (amts a a.length && amts l l.length)) := Lib.hid (rosV_yes ⟨hs.1, hs.2, h3⟩)
      clear h3
      go_enter Try.func98, Try.ntmps98
      go_wp2_with fail
      refine (i_isSectorCount _ _).mono ?_
      rintro e w' ⟨rfl, rfl⟩
      rw [hb]
      go_wp2_with fail
      refine (i_hasNoAmount A ca a _ (HP.out.1.below (HB _).out) (by omega)).mono ?_
      rintro e w' ⟨n1, rfl, rfl⟩
      cases p : amts a a.length
      · go_wp2
        go_ret
        exact ⟨by rw [HY.out, p]; rfl, by repeat (first | exact (HB _).out | refine below_draws ?_ _)⟩
      · go_wp2_with fail
        refine (i_hasNoAmount L cl l _ (HP.out.2.below (below_draws (HB _).out _)) (by omega)).mono ?_
        rintro e w' ⟨n2, rfl, rfl⟩
        go_wp2
        go_ret
        exact ⟨by rw [HY.out, p]; simp, by repeat (first | exact (HB _).out | refine below_draws ?_ _)⟩
    · have e1 : ((l.length : Int) == (a.length : Int)) = false := by rw [beq_eq_false_iff_ne]; omega
      have HY : Hid (rosV a l = false) := Lib.hid (rosV_no (fun hh => h3 hh.2.2))
      clear h3
      go_enter Try.func98, Try.ntmps98
      go_wp2_with fail
      refine (i_isSectorCount _ _).mono ?_
      rintro e w' ⟨rfl, rfl⟩
      rw [hb]
      go_wp2
      go_ret
      exact ⟨by rw [HY.out]; rfl, (HB _).out⟩
  · have hb : secB (a.length : Int) = false := by unfold secB; rw [decide_eq_false (by omega)]
    have HY : Hid (rosV a l = false) := Lib.hid (rosV_no (fun hh => hs ⟨hh.1, hh.2.1⟩))
    go_enter Try.func98, Try.ntmps98
    go_wp2_with fail
    refine (i_isSectorCount _ _).mono ?_
    rintro e w' ⟨rfl, rfl⟩
    rw [hb]
    go_wp2
    go_ret
    exact ⟨by rw [HY.out]; rfl, (HB _).out⟩
set_option maxHeartbeats 8000000 in
theorem s_l04Rose (A L : Option Addr) (ca cl : Nat) (a l : List Nat) (B : Nat) (w : World) (h : Rs w A L a l) (hn : FewS a l) (hk : BlkL w B [.slice A a.length ca, .slice L l.length cl]) :
    Calls Try.prog 132 #[.pointer (some ⟨B, 0, none⟩)] w fun e w' => e = .returned (.bool (rosV a l)) ∧ ∃ n, w' = w.drewN n := by
  unfold FewS at hn
  have HP := Lib.hid h; clear h
  obtain ⟨k0, k1⟩ := hk.two
  clear hk
  by_cases hs : sizedS a l
  · obtain ⟨h1, h2, h3⟩ := hs
    have e1 : ((l.length : Int) != (a.length : Int)) = false := by simp; omega
    have HY : Hid (rosV a l = two a l a.length) := Lib.hid (rosV_two ⟨h1, h2, h3⟩)
    have h3' : a.length ≤ l.length := by omega
    clear h3
    go_enter Try.func132, Try.ntmps132
    go_wp2
    go_loopw [4] (fun i wr => ∃ k n : Nat, k ≤ a.length ∧ i = .int .i64 k ∧ Hid (two a l k = true) ∧ wr = w.drewN n) (fun i _ => a.length - (intOf i).toNat)
    case atStart => exact ⟨0, 0, Nat.zero_le _, rfl, rfl, rfl⟩
    case round =>
      obtain ⟨k, n, hk, rfl, hr, rfl⟩ := hrel
      clear e1
      by_cases hlt : k < a.length
      · obtain ⟨b, off, rfl, hb, hc⟩ := HP.out.1.at_ hlt
        obtain ⟨bl, ol, rfl, hbl, hcl⟩ := HP.out.2.at_ (show k < l.length by omega)
        have hltl : k < l.length := by omega
        have HNo : Hid (two a l (k + 1) = false → rosV a l = false) := Lib.hid (fun h => by rw [HY.out]; exact two_no h (by omega))
        have HA : Hid (two a l (k + 1) = (amount (a.getD k 0) && amount (l.getD k 0))) := Lib.hid (by show (two a l k && _) = _; rw [hr.out]; rfl)
        obtain ⟨x, hx⟩ : ∃ x, x = a.getD k 0 := ⟨_, rfl⟩
        obtain ⟨y, hy⟩ : ∃ x, x = l.getD k 0 := ⟨_, rfl⟩
        rw [← hx] at hc
        rw [← hy] at hcl
        have HX := Lib.hid hx; clear hx hb
        have HYY := Lib.hid hy; clear hy hbl
        go_wp2_with fail
        refine (s_l02Least _ _).mono ?_
        rintro e w' ⟨m1, rfl, rfl⟩
        cases p1 : amount x
        · have HN : Hid (rosV a l = false) := Lib.hid (HNo.out (by rw [HA.out, ← HX.out, p1]; rfl))
          go_wp2
          go_ret
          exact ⟨by rw [HN.out]; rfl, _, by first | rfl | (simp only [World.drewN_drewN]; rfl)⟩
        · go_wp2_with fail
          refine (s_l02Least _ _).mono ?_
          rintro e w' ⟨m2, rfl, rfl⟩
          cases p2 : amount y
          · have HN : Hid (rosV a l = false) := Lib.hid (HNo.out (by rw [HA.out, ← HYY.out, p2]; simp))
            go_wp2
            go_ret
            exact ⟨by rw [HN.out]; rfl, _, by first | rfl | (simp only [World.drewN_drewN]; rfl)⟩
          · have HG : Hid (two a l (k + 1) = true) := Lib.hid (by rw [HA.out, ← HX.out, ← HYY.out, p1, p2]; rfl)
            go_wp2
            go_roundw
            case rel => exact ⟨k + 1, _, by omega, by go_num, HG, by first | rfl | (simp only [World.drewN_drewN]; rfl)⟩
            case measure => simp [intOf]; omega
      · have hkk : k = a.length := by omega
        subst hkk
        have HN : Hid (rosV a l = true) := Lib.hid (by rw [HY.out, hr.out])
        go_wp2
        go_ret
        exact ⟨by rw [HN.out]; rfl, n, rfl⟩
  · have HN : Hid (rosV a l = false) := Lib.hid (rosV_no hs)
    unfold sizedS at hs
    by_cases h1 : a.length < 1
    · clear hs
      go_enter Try.func132, Try.ntmps132
      go_wp2
      go_ret
      exact ⟨by rw [HN.out]; rfl, 0, rfl⟩
    · by_cases h2 : 16 < a.length
      · clear hs
        go_enter Try.func132, Try.ntmps132
        go_wp2
        go_ret
        exact ⟨by rw [HN.out]; rfl, 0, rfl⟩
      · have e1 : ((l.length : Int) != (a.length : Int)) = true := by rw [bne_iff_ne]; omega
        clear hs
        go_enter Try.func132, Try.ntmps132
        go_wp2
        go_ret
        exact ⟨by rw [HN.out]; rfl, 0, rfl⟩
end Go.Proofs.Ytpmjikchlofebaa
