/- The first greatest number of a list. No statement is proved here. -/
import Derived.Test.YtmfookomcgbbkaaVal
import Derived.Test.YtmfookomcgbbkaaSums
namespace Go.Proofs.Ytmfookomcgbbkaa
open Go Go.RowKit

/-- the first index with the greatest number of the first k ones; not-a-numbers are left out -/
def fgStep (xs : List Nat) (k : Nat) (o : Option Nat) : Option Nat :=
  if isn .f32 (xs.getD k 0) then o else
  match o with
  | none => some k
  | some b => if gtr32 (xs.getD k 0) (xs.getD b 0) then some k else some b
def fg (xs : List Nat) : Nat → Option Nat
  | 0 => none
  | k + 1 => fgStep xs k (fg xs k)
def oI : Option Nat → Int
  | none => 0
  | some b => (b : Int)
def oM (xs : List Nat) : Option Nat → Nat
  | none => 0
  | some b => xs.getD b 0
def oF : Option Nat → Bool
  | none => false
  | some _ => true
theorem fg_lt (xs : List Nat) : ∀ k b, fg xs k = some b → b < k := by
  intro k; induction k with
  | zero => intro b h; cases h
  | succ k ih =>
    intro b h
    simp only [fg, fgStep] at h
    split at h
    · have := ih b h; omega
    · split at h
      · simp at h; omega
      · rename_i c hc
        split at h
        · simp at h; omega
        · simp at h; have := ih b (by rw [hc, h]); omega
set_option maxHeartbeats 4000000 in
theorem i_firstGreatest (A : Option Addr) (cap : Nat) (xs : List Nat) (w : World) (h : Fl w A xs) (hn : xs.length ≤ 1048576) :
    Calls Try.prog 87 #[.slice A xs.length cap] w fun e w' => ∃ n, e = .returned (.tuple #[.int .i64 (oI (fg xs xs.length)), .float .f32 (oM xs (fg xs xs.length)), .bool (oF (fg xs xs.length))]) ∧ w' = w.drewN n := by
  go_enter Try.func87, Try.ntmps87
  go_wp2
  go_loopw [5, 6, 7, 12] (fun b m f i wr => ∃ (k n : Nat) (o : Option Nat), k ≤ xs.length ∧ i = .int .i64 k ∧ Hid (fg xs k = o) ∧ b = .int .i64 (oI o) ∧ m = .float .f32 (oM xs o) ∧ f = .bool (oF o) ∧ wr = w.drewN n) (fun _ _ _ i _ => xs.length - (intOf i).toNat)
  case atStart => exact ⟨0, 0, none, Nat.zero_le _, rfl, rfl, rfl, rfl, rfl, rfl⟩
  case round =>
    obtain ⟨k, n, o, hk, rfl, ho, rfl, rfl, rfl, rfl⟩ := hrel
    by_cases hlt : k < xs.length
    · obtain ⟨b, off, rfl, hb, hc⟩ := h.at_ hlt
      have HF := Lib.hid h; clear h hb
      have HS : Hid (fg xs (k + 1) = fgStep xs k o) := Lib.hid (by show fgStep xs k (fg xs k) = _; rw [ho.out])
      obtain ⟨x, hx⟩ : ∃ x, x = xs.getD k 0 := ⟨_, rfl⟩
      rw [← hx] at hc
      have HX := Lib.hid hx; clear hx
      have hw := isn_wideV x (w.drewN n)
      cases hi : isn .f32 x
      · rw [hi] at hw
        cases o with
        | none =>
          have HO : Hid (fg xs (k + 1) = some k) := Lib.hid (by rw [HS.out]; unfold fgStep; rw [← HX.out, hi]; rfl)
          have e1 : oF none = false := rfl
          clear hi
          go_wp2_with fail
          refine (isNaN_any _ _).mono ?_
          rintro e w' ⟨rfl, rfl⟩
          rw [hw]
          go_wp2
          go_roundw
          case rel => exact ⟨k + 1, _, some k, by omega, by go_num, HO, rfl, by show _ = Value.float .f32 (xs.getD k 0); rw [← HX.out], rfl, rfl⟩
          case measure => simp [intOf]; omega
        | some c =>
          have e1 : oF (some c) = true := rfl
          cases hg : (FloatKind.f32.format.order x (oM xs (some c)) == some .gt)
          · have HO : Hid (fg xs (k + 1) = some c) := Lib.hid (by rw [HS.out]; unfold fgStep gtr32; rw [← HX.out, hi]; simp only [Bool.false_eq_true, if_false]; rw [show (FloatKind.f32.format.order x (xs.getD c 0) == some .gt) = false from hg]; rfl)
            clear hi
            go_wp2_with fail
            refine (isNaN_any _ _).mono ?_
            rintro e w' ⟨rfl, rfl⟩
            rw [hw]
            go_wp2
            go_roundw
            case rel => exact ⟨k + 1, _, some c, by omega, by go_num, HO, rfl, rfl, rfl, rfl⟩
            case measure => simp [intOf]; omega
          · have HO : Hid (fg xs (k + 1) = some k) := Lib.hid (by rw [HS.out]; unfold fgStep gtr32; rw [← HX.out, hi]; simp only [Bool.false_eq_true, if_false]; rw [show (FloatKind.f32.format.order x (xs.getD c 0) == some .gt) = true from hg]; rfl)
            clear hi
            go_wp2_with fail
            refine (isNaN_any _ _).mono ?_
            rintro e w' ⟨rfl, rfl⟩
            rw [hw]
            go_wp2
            go_roundw
            case rel => exact ⟨k + 1, _, some k, by omega, by go_num, HO, rfl, by show _ = Value.float .f32 (xs.getD k 0); rw [← HX.out], rfl, rfl⟩
            case measure => simp [intOf]; omega
      · rw [hi] at hw
        have HO : Hid (fg xs (k + 1) = o) := Lib.hid (by rw [HS.out]; unfold fgStep; rw [← HX.out, hi]; rfl)
        clear hi
        go_wp2_with fail
        refine (isNaN_any _ _).mono ?_
        rintro e w' ⟨rfl, rfl⟩
        rw [hw]
        go_wp2
        go_roundw
        case rel => exact ⟨k + 1, _, o, by omega, by go_num, HO, rfl, rfl, rfl, rfl⟩
        case measure => simp [intOf]; omega
    · have hkk : k = xs.length := by omega
      subst hkk
      have HF := Lib.hid h; clear h
      go_wp2
      refine bodyPost_ret (results_tmp3 rfl _ _ _) rfl ?_
      exact ⟨_, by rw [ho.out]; rfl, rfl⟩
/-- no number of the list is a not-a-number -/
theorem fins_at {xs : List Nat} {n : Nat} (h : fins xs n = true) : ∀ j, j < n → fin .f32 (xs.getD j 0) = true := by
  induction n with
  | zero => intro j hj; omega
  | succ n ih =>
    intro j hj
    simp only [fins, Bool.and_eq_true] at h
    by_cases e : j = n
    · rw [e]; exact h.2
    · exact ih h.1 j (by omega)
def stallO (a l d : List Nat) : Bool := validP a l d
def stallI (a l d : List Nat) : Int := if validP a l d then oI (fg l l.length) else 0
def stallR (a l d : List Nat) : Nat := if validP a l d then canon .f32 (oM a (fg l l.length)) else 0
theorem fins_of {a l d : List Nat} (h : validP a l d = true) : fins l l.length = true := by
  rw [validP_yes (sized_of h)] at h
  simp only [Bool.and_eq_true] at h
  exact h.2.1
theorem fg_some {xs : List Nat} (h : ∀ j, j < xs.length → fin .f32 (xs.getD j 0) = true) : ∀ k, 0 < k → k ≤ xs.length → ∃ b, fg xs k = some b ∧ b < k := by
  intro k; induction k with
  | zero => intro h0; omega
  | succ k ih =>
    intro _ hk
    have hf := isn_of_fin (h k (by omega))
    have hs : ∃ b, fg xs (k + 1) = some b := by
      show ∃ b, fgStep xs k (fg xs k) = some b
      unfold fgStep
      rw [hf]
      cases fg xs k with
      | none => exact ⟨_, rfl⟩
      | some c =>
        simp only [Bool.false_eq_true, if_false]
        split
        · exact ⟨_, rfl⟩
        · exact ⟨_, rfl⟩
    obtain ⟨b, hb⟩ := hs
    exact ⟨b, hb, fg_lt _ _ _ hb⟩
set_option maxHeartbeats 4000000 in
theorem i_StallOf (A L D : Option Addr) (ca cl cd : Nat) (a l d : List Nat) (w : World) (h : Pf w A L D a l d) (hn : Few a l d) :
    Calls Try.prog 46 #[.agg #[.slice A a.length ca, .slice L l.length cl, .slice D d.length cd]] w fun e w' => ∃ r, e = .returned (.tuple #[.int .i64 (stallI a l d), .float .f32 r, .bool (stallO a l d)]) ∧ canon .f32 r = stallR a l d ∧ Below w.heap.size w w' := by
  have HP := Lib.hid h; clear h
  have HN := Lib.hid hn; clear hn
  have HB : ∀ o1, Hid (Below w.heap.size w (w.alloc o1)) := fun _ => Lib.hid ((Below.refl _ _).alloc (Nat.le_refl _) _)
  cases hv : validP a l d
  · have HV := Lib.hid hv
    go_enter Try.func46, Try.ntmps46
    go_wp2_with fail
    refine (i_ValidProfile A L D ca cl cd a l d _ (HP.out.below (HB _).out) HN.out).mono ?_
    rintro e w1 ⟨rfl, b1⟩
    have B1 : Hid (Below w.heap.size w w1) := Lib.hid (below_of (HB _).out (by simp) b1)
    clear b1
    rw [show validP a l d = _ from HV.out]
    go_wp2
    refine bodyPost_ret (results_tmp3 rfl _ _ _) rfl ?_
    exact ⟨_, by unfold stallI stallO; rw [HV.out]; rfl, by unfold stallR; rw [HV.out]; exact canon_zero, B1.out⟩
  · have HV := Lib.hid hv
    obtain ⟨s1, s2, s3, s4⟩ := sized_of hv
    obtain ⟨c, hc, hcl⟩ := fg_some (fins_at (fins_of hv)) l.length (by omega) (Nat.le_refl _)
    have HC := Lib.hid hc
    clear hv hc
    have e1 : c < a.length := by omega
    have e2 : l.length ≤ 1048576 := by omega
    clear s3 s4 hcl
    go_enter Try.func46, Try.ntmps46
    go_wp2_with fail
    refine (i_ValidProfile A L D ca cl cd a l d _ (HP.out.below (HB _).out) HN.out).mono ?_
    rintro e w1 ⟨rfl, b1⟩
    have B1 : Hid (Below w.heap.size w w1) := Lib.hid (below_of (HB _).out (by simp) b1)
    have K1 : Hid (Blk3 w1 w.heap.size _ _ _) := Lib.hid (Blk3.below (blk3_new w _ _ _ _) b1)
    clear b1
    rw [show validP a l d = _ from HV.out]
    obtain ⟨-, ⟨k0, k1, k2⟩, -, -, -⟩ := K1.out
    have PA := Lib.hid (HP.out.1.below B1.out)
    have PL := Lib.hid (HP.out.2.1.below B1.out)
    go_wp2_with fail
    refine (i_firstGreatest L cl l _ PL.out e2).mono ?_
    rintro e w' ⟨n, rfl, rfl⟩
    rw [HC.out]
    obtain ⟨ba, oa, rfl, hb, hca⟩ := PA.out.at_ e1
    obtain ⟨y, hy⟩ : ∃ y, y = a.getD c 0 := ⟨_, rfl⟩
    rw [← hy] at hca
    have HY := Lib.hid hy; clear hy hb
    simp only [oI, oF]
    go_wp2_with fail
    go_quiet (fail)
    go_wp2
    refine bodyPost_ret (results_tmp3 rfl _ _ _) rfl ?_
    exact ⟨y, by unfold stallI stallO; rw [HV.out, HC.out]; rfl, by unfold stallR; rw [HV.out, HC.out, HY.out]; rfl, below_draws (below_draws B1.out _) _⟩
set_option maxHeartbeats 4000000 in
theorem s_StallOf (A L D : Option Addr) (ca cl cd : Nat) (a l d : List Nat) (w : World) (h : Pf w A L D a l d) (hn : Few a l d) :
    Calls Try.prog 45 #[.agg #[.slice A a.length ca, .slice L l.length cl, .slice D d.length cd]] w fun e w' => ∃ r, e = .returned (.tuple #[.int .i64 (stallI a l d), .float .f32 r, .bool (stallO a l d)]) ∧ canon .f32 r = stallR a l d ∧ Below w.heap.size w w' := by
  have HP := Lib.hid h; clear h
  have HN := Lib.hid hn; clear hn
  have HB : ∀ o1, Hid (Below w.heap.size w (w.alloc o1)) := fun _ => Lib.hid ((Below.refl _ _).alloc (Nat.le_refl _) _)
  cases hv : validP a l d
  · have HV := Lib.hid hv
    go_enter Try.func45, Try.ntmps45
    go_wp2_with fail
    refine (s_l02Is A L D ca cl cd a l d _ _ (HP.out.below (HB _).out) (blk3_new w _ _ _ _) HN.out).mono ?_
    rintro e w1 ⟨n, rfl, rfl⟩
    rw [show validP a l d = _ from HV.out]
    go_wp2
    refine bodyPost_ret (results_tmp3 rfl _ _ _) rfl ?_
    exact ⟨_, by unfold stallI stallO; rw [HV.out]; rfl, by unfold stallR; rw [HV.out]; exact canon_zero, below_draws (HB _).out _⟩
  · have HV := Lib.hid hv
    obtain ⟨s1, s2, s3, s4⟩ := sized_of hv
    have hfin := fins_at (fins_of hv)
    have HSome : Hid (∀ k, 0 < k → k ≤ l.length → ∃ b, fg l k = some b ∧ b < k) := Lib.hid (fg_some hfin)
    have HFin := Lib.hid hfin
    clear hv hfin
    have e1 : a.length ≤ l.length := by omega
    have e2 : l.length ≤ a.length := by omega
    clear s3 s4
    go_enter Try.func45, Try.ntmps45
    go_wp2_with fail
    refine (s_l02Is A L D ca cl cd a l d _ _ (HP.out.below (HB _).out) (blk3_new w _ _ _ _) HN.out).mono ?_
    rintro e w1 ⟨n0, rfl, rfl⟩
    rw [show validP a l d = _ from HV.out]
    obtain ⟨w1, hw1⟩ : ∃ w1, w1 = w.alloc (.cells #[.slice A a.length ca, .slice L l.length cl, .slice D d.length cd] 45) := ⟨_, rfl⟩
    have K1 : Hid (Blk3 w1 w.heap.size (.slice A a.length ca) (.slice L l.length cl) (.slice D d.length cd)) := Lib.hid (by rw [hw1]; exact blk3_new w _ _ _ _)
    have B1 : Hid (Below w.heap.size w w1) := Lib.hid (by rw [hw1]; exact (HB _).out)
    rw [← hw1]
    clear hw1
    obtain ⟨-, ⟨k0, k1, k2⟩, -, -, -⟩ := K1.out
    have PA := Lib.hid (HP.out.1.below B1.out)
    have PL := Lib.hid (HP.out.2.1.below B1.out)
    go_wp2_with fail
    go_loopw [5, 6] (fun b i wr => ∃ j n c : Nat, 1 ≤ j ∧ j ≤ a.length ∧ i = .int .i64 j ∧ b = .int .i64 c ∧ Hid (fg l j = some c) ∧ c < j ∧ wr = w1.drewN n) (fun _ i _ => a.length - (intOf i).toNat)
    case atStart => exact ⟨1, _, 0, by omega, by omega, rfl, rfl, Lib.hid (by show fgStep l 0 none = _; unfold fgStep; rw [isn_of_fin (HFin.out 0 (by omega))]; rfl), by omega, rfl⟩
    case round =>
      obtain ⟨j, n, c, hj1, hj, rfl, rfl, hr, hcj, rfl⟩ := hrel
      by_cases hlt : j < a.length
      · obtain ⟨bl, ol, rfl, hbl, hl⟩ := PL.out.at_ (show j < l.length by omega)
        have hl' := PL.out.same rfl (show c < l.length by omega)
        clear hbl
        have HS : Hid (fg l (j + 1) = if gtr32 (l.getD j 0) (l.getD c 0) then some j else some c) := Lib.hid (by
          show fgStep l j (fg l j) = _
          rw [hr.out]; unfold fgStep; rw [isn_of_fin (HFin.out j (by omega))]; rfl)
        obtain ⟨x, hx⟩ : ∃ x, x = l.getD j 0 := ⟨_, rfl⟩
        obtain ⟨y, hy⟩ : ∃ y, y = l.getD c 0 := ⟨_, rfl⟩
        rw [← hx] at hl
        rw [← hy] at hl'
        have HX := Lib.hid hx; clear hx
        have HY := Lib.hid hy; clear hy
        have hlt2 : j < l.length := by omega
        have hlt3 : c < l.length := by omega
        cases hg : (FloatKind.f32.format.order x y == some .gt)
        · have HO : Hid (fg l (j + 1) = some c) := Lib.hid (by rw [HS.out, ← HX.out, ← HY.out]; unfold gtr32; rw [hg]; rfl)
          go_wp2_with fail
          go_quiet (fail)
          go_wp2
          go_roundw
          case rel => exact ⟨j + 1, _, c, by omega, by omega, by go_num, rfl, HO, by omega, rfl⟩
          case measure => simp [intOf]; omega
        · have HO : Hid (fg l (j + 1) = some j) := Lib.hid (by rw [HS.out, ← HX.out, ← HY.out]; unfold gtr32; rw [hg]; rfl)
          go_wp2_with fail
          go_quiet (fail)
          go_wp2
          go_roundw
          case rel => exact ⟨j + 1, _, j, by omega, by omega, by go_num, rfl, HO, by omega, rfl⟩
          case measure => simp [intOf]; omega
      · have hkk : j = a.length := by omega
        have HC : Hid (fg l l.length = some c) := Lib.hid (by rw [show l.length = j by omega]; exact hr.out)
        obtain ⟨ba, oa, rfl, hb, hca⟩ := PA.out.at_ (show c < a.length by omega)
        obtain ⟨y, hy⟩ : ∃ y, y = a.getD c 0 := ⟨_, rfl⟩
        rw [← hy] at hca
        have HY := Lib.hid hy; clear hy hb
        have hlt3 : c < a.length := by omega
        go_wp2_with fail
        go_quiet (fail)
        go_wp2
        refine bodyPost_ret (results_tmp3 rfl _ _ _) rfl ?_
        exact ⟨y, by unfold stallI stallO; rw [HV.out, HC.out]; rfl, by unfold stallR; rw [HV.out, HC.out, HY.out]; rfl, below_draws (below_draws B1.out _) _⟩
end Go.Proofs.Ytmfookomcgbbkaa
