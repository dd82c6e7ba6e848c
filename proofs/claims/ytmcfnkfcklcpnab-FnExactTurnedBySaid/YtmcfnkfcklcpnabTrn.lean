/- How much turns have turned: both sides. No statement is proved here. -/
import Derived.Test.YtmcfnkfcklcpnabYaw
import Derived.Test.YtmcfnkfcklcpnabSize
import Derived.Test.YtmcfnkfcklcpnabSame
namespace Go.Proofs.Ytmcfnkfcklcpnab
open Go Go.RowKit
def trD (xs : List Nat) (k : Nat) : Nat := fop .sub .f32 (xs.getD (k + 1) 0) (xs.getD k 0)
def okT (xs : List Nat) : Nat → Bool
  | 0 => true
  | k + 1 => okT xs k && fin .f32 (trD xs k)
def sumT (xs : List Nat) : Nat → Nat
  | 0 => 0
  | k + 1 => fop .add .f32 (sumT xs k) (canon .f32 (abs32 (wrapT (trD xs k))))
def trnO (xs : List Nat) : Bool := decide (xs.length ≤ 128) && (fins xs xs.length && okT xs (xs.length - 1))
def trnR (xs : List Nat) : Nat := bif trnO xs then sumT xs (xs.length - 1) else 0
theorem okT_no {xs : List Nat} {k n : Nat} (h : okT xs k = false) (hk : k ≤ n) : okT xs n = false := by
  induction n with
  | zero => rw [show k = 0 by omega] at h; exact h
  | succ n ih =>
    by_cases e : k = n + 1
    · subst e; exact h
    · simp only [okT, ih (by omega), Bool.false_and]
theorem fins_at {xs : List Nat} {n : Nat} (h : fins xs n = true) : ∀ k, k < n → fin .f32 (xs.getD k 0) = true := by
  induction n with
  | zero => intro k hk; omega
  | succ n ih =>
    simp only [fins, Bool.and_eq_true] at h
    intro k hk
    by_cases e : k = n
    · subst e; exact h.2
    · exact ih h.1 k (by omega)
theorem siz_fin {y : Nat} (hy : fin .f32 y = true) : fin .f32 (siz y) = true := by
  have h := siz_decode hy
  unfold fin
  rw [h]
  exact (abs_fin hy).1
theorem s_l07Size (y : Nat) (hy : fin .f32 y = true) (w : World) :
    Calls Try.prog 89 #[.float .f32 y] w fun e w' => e = .returned (.float .f32 (siz y)) ∧ w' = w := by
  obtain ⟨h1, h2⟩ := fop_sure (sub_num (k := .f32) (show fin .f32 0 = true by decide +kernel) hy)
  cases q : (FloatKind.f32.format.order y 0 == some .lt || FloatKind.f32.format.order y 0 == some .eq)
  · have hs : siz y = y := by unfold siz leq32; rw [q]; rfl
    rw [hs]
    go_enter Try.func89, Try.ntmps89
    go_wp2
    go_ret
    exact ⟨rfl, rfl⟩
  · have hs : siz y = fop .sub .f32 0 y := by unfold siz leq32; rw [q]; rfl
    rw [hs]
    go_enter Try.func89, Try.ntmps89
    go_wp2
    go_ret
    exact ⟨rfl, by first | rfl | simp⟩
set_option maxHeartbeats 8000000 in
theorem i_TurnedBy (A : Option Addr) (cap : Nat) (xs : List Nat) (w : World) (h : Fl w A xs) (hn : xs.length ≤ 1048576) :
    Calls Try.prog 43 #[.slice A xs.length cap] w fun e w' => ∃ r n, e = .returned (.tuple #[.float .f32 r, .bool (trnO xs)]) ∧ canon .f32 r = trnR xs ∧ w' = w.drewN n := by
  have HF := Lib.hid h; clear h
  by_cases h128 : xs.length ≤ 128
  · cases hf : fins xs xs.length
    · have HO : Hid (trnO xs = false) := Lib.hid (by unfold trnO; rw [hf]; simp)
      have HR : Hid (trnR xs = 0) := Lib.hid (by unfold trnR; rw [HO.out]; rfl)
      rw [HO.out, HR.out]
      go_enter Try.func43, Try.ntmps43
      go_wp2_with fail
      refine (i_hasInfinite A cap xs _ HF.out hn).mono ?_
      rintro e w' ⟨n, rfl, rfl⟩
      rw [hf]
      go_wp2
      go_ret2
      exact ⟨_, _, rfl, canon_zero, rfl⟩
    · have HV := Lib.hid hf; clear hf
      have HFI := Lib.hid (fins_at HV.out)
      go_enter Try.func43, Try.ntmps43
      go_wp2_with fail
      refine (i_hasInfinite A cap xs _ HF.out hn).mono ?_
      rintro e w' ⟨n0, rfl, rfl⟩
      rw [HV.out]
      go_wp2_with fail
      go_loopw [4, 5] (fun s i wr => ∃ j n r : Nat, (j + 1 ≤ xs.length ∨ j = 0) ∧ i = .int .i64 (j + 1 : Nat) ∧ s = .float .f32 r ∧ Hid (canon .f32 r = sumT xs j) ∧ Hid (okT xs j = true) ∧ wr = w.drewN n) (fun _ i _ => xs.length + 1 - (intOf i).toNat)
      case atStart => exact ⟨0, _, 0, .inr rfl, rfl, rfl, Lib.hid canon_zero, Lib.hid rfl, rfl⟩
      case round =>
        obtain ⟨j, n, r, hj, rfl, rfl, hr, hok, rfl⟩ := hrel
        by_cases hlt : j + 1 < xs.length
        · obtain ⟨b, off, rfl, hb, hc⟩ := HF.out.at_ hlt
          obtain ⟨b', off', e', hb', hc'⟩ := HF.out.at_ (show j < xs.length by omega)
          simp only [Option.some.injEq, Addr.mk.injEq] at e'
          obtain ⟨rfl, rfl, -⟩ := e'
          have hx := HFI.out (j + 1) hlt
          have hy := HFI.out j (by omega)
          obtain ⟨s1, s2⟩ := fop_sure (sub_num (k := .f32) hx hy)
          have s1 : ∀ w, fopV .sub .f32 (xs.getD (j + 1) 0) (xs.getD j 0) w = trD xs j := s1
          have HS : Hid (sumT xs (j + 1) = fop .add .f32 (sumT xs j) (canon .f32 (abs32 (wrapT (trD xs j))))) := rfl
          have HK : Hid (okT xs (j + 1) = fin .f32 (trD xs j)) := Lib.hid (by show (okT xs j && _) = _; rw [hok.out]; rfl)
          have HNO : Hid (fin .f32 (trD xs j) = false → trnO xs = false) := Lib.hid fun hh => by
            unfold trnO
            rw [okT_no (k := j + 1) (by rw [HK.out]; exact hh) (by omega)]; simp
          have HFD : Hid (fin .f32 (trD xs j) = true → fin .f32 (wrapT (trD xs j)) = true) := Lib.hid fun hh => bd_fin (wrapT_bd hh)
          clear hx hy hb hb'
          generalize xs.getD (j + 1) 0 = x at hc s1 s2
          generalize xs.getD j 0 = y at hc' s1 s2
          generalize trD xs j = D at s1 HS HK HNO HFD
          cases hD : fin .f32 D
          · have HO := Lib.hid (HNO.out hD)
            have HR : Hid (trnR xs = 0) := Lib.hid (by unfold trnR; rw [HO.out]; rfl)
            go_wp2_with fail
            go_quiet ((go_at_call 84; first
              | (refine Calls.quiet_of (v := .tuple #[.float .f32 0, .bool false]) ((i_WrapAngle_no D hD _).mono ?_); rintro e w' ⟨m, rfl, rfl⟩; exact ⟨rfl, m, rfl⟩)
              | (refine quiet_more (v := .tuple #[.float .f32 0, .bool false]) ((i_WrapAngle_no D hD _).mono ?_); rintro e w' ⟨m, rfl, rfl⟩; exact ⟨rfl, m, rfl⟩)))
            go_wp2
            go_ret2
            exact ⟨_, _, by rw [HO.out]; rfl, by rw [HR.out]; exact canon_zero, by first | rfl | (simp only [World.drewN_drewN]; rfl)⟩
          · have HD := Lib.hid hD
            have hw := HFD.out hD
            go_wp2_with fail
            go_quiet ((go_at_call 84; first
              | (refine Calls.quiet_of (v := .tuple #[.float .f32 (wrapT D), .bool true]) ((i_WrapAngle D HD.out _).mono ?_); rintro e w' ⟨m, rfl, rfl⟩; exact ⟨rfl, m, rfl⟩)
              | (refine quiet_more (v := .tuple #[.float .f32 (wrapT D), .bool true]) ((i_WrapAngle D HD.out _).mono ?_); rintro e w' ⟨m, rfl, rfl⟩; exact ⟨rfl, m, rfl⟩)))
            go_wp2_with fail
            refine (i_absOf _ hw _).mono ?_
            rintro e w' ⟨rfl, rfl⟩
            go_wp2
            go_roundw
            case rel => exact ⟨j + 1, _, _, by omega, by go_num, rfl, Lib.hid (by rw [canon_fopV, hr.out, HS.out]), Lib.hid (by rw [HK.out]; exact HD.out), by first | rfl | (simp only [World.drewN_drewN]; rfl)⟩
            case measure => simp [intOf]; omega
        · have HO : Hid (trnO xs = true) := Lib.hid (by
            unfold trnO
            rw [HV.out, decide_eq_true h128, show xs.length - 1 = j by omega, hok.out]; rfl)
          have HR : Hid (trnR xs = sumT xs j) := Lib.hid (by unfold trnR; rw [HO.out, show xs.length - 1 = j by omega]; rfl)
          go_wp2
          go_ret2
          exact ⟨_, _, by rw [HO.out]; rfl, by rw [HR.out]; exact hr.out, rfl⟩
  · have HO : Hid (trnO xs = false) := Lib.hid (by unfold trnO; rw [decide_eq_false h128]; rfl)
    have HR : Hid (trnR xs = 0) := Lib.hid (by unfold trnR; rw [HO.out]; rfl)
    rw [HO.out, HR.out]
    go_enter Try.func43, Try.ntmps43
    go_wp2
    go_ret2
    first | exact ⟨0, 0, rfl, canon_zero, rfl⟩ | exact ⟨_, _, rfl, canon_zero, rfl⟩ | exact ⟨_, rfl, canon_zero, 0, rfl⟩ | exact ⟨_, rfl, canon_zero, _, rfl⟩
set_option maxHeartbeats 8000000 in
theorem s_TurnedBy (A : Option Addr) (cap : Nat) (xs : List Nat) (w : World) (h : Fl w A xs) (_hn : xs.length ≤ 1048576) :
    Calls Try.prog 42 #[.slice A xs.length cap] w fun e w' => ∃ r n, e = .returned (.tuple #[.float .f32 r, .bool (trnO xs)]) ∧ canon .f32 r = trnR xs ∧ w' = w.drewN n := by
  have HF := Lib.hid h; clear h
  by_cases h128 : xs.length ≤ 128
  · go_enter Try.func42, Try.ntmps42
    go_wp2
    go_loopw [13] (fun i wr => ∃ k n : Nat, k ≤ xs.length ∧ i = .int .i64 k ∧ Hid (fins xs k = true) ∧ wr = w.drewN n) (fun i _ => xs.length - (intOf i).toNat)
    case atStart => exact ⟨0, 0, Nat.zero_le _, rfl, Lib.hid rfl, rfl⟩
    case round =>
      obtain ⟨k, n, hk, rfl, hv, rfl⟩ := hrel
      by_cases hlt : k < xs.length
      · obtain ⟨b, off, rfl, hb, hc⟩ := HF.out.at_ hlt
        have hS : Hid (fins xs (k + 1) = fin .f32 (xs.getD k 0)) := Lib.hid (by show (fins xs k && _) = _; rw [hv.out]; rfl)
        have hno : Hid (fin .f32 (xs.getD k 0) = false → trnO xs = false) := Lib.hid fun hh => by
          unfold trnO
          cases hf : fins xs xs.length
          · simp
          · rw [fins_at hf k hlt] at hh; cases hh
        clear hb
        generalize xs.getD k 0 = x at hc hS hno
        go_wp2_with fail
        refine (s_l01Finite _ _).mono ?_
        rintro e w' ⟨n2, rfl, rfl⟩
        cases hx : fin .f32 x
        · have hO := Lib.hid (hno.out hx)
          have HR : Hid (trnR xs = 0) := Lib.hid (by unfold trnR; rw [hO.out]; rfl)
          go_wp2
          go_ret2
          exact ⟨_, _, by rw [hO.out]; rfl, by rw [HR.out]; exact canon_zero, by first | rfl | (simp only [World.drewN_drewN]; rfl)⟩
        · have hX := Lib.hid hx; clear hx
          go_wp2
          go_roundw
          case rel => exact ⟨k + 1, _, by omega, by go_num, Lib.hid (by rw [hS.out]; exact hX.out), by first | rfl | (simp only [World.drewN_drewN]; rfl)⟩
          case measure => simp [intOf]; omega
      · have hkk : k = xs.length := by omega
        subst hkk
        have HFI := Lib.hid (fins_at hv.out)
        go_wp2
        go_loopw [5, 6] (fun s i wr => ∃ j n r : Nat, (j + 1 ≤ xs.length ∨ j = 0) ∧ i = .int .i64 (j + 1 : Nat) ∧ s = .float .f32 r ∧ Hid (canon .f32 r = sumT xs j) ∧ Hid (okT xs j = true) ∧ wr = w.drewN n) (fun _ i _ => xs.length + 1 - (intOf i).toNat)
        case atStart => exact ⟨0, _, 0, .inr rfl, rfl, rfl, Lib.hid canon_zero, Lib.hid rfl, rfl⟩
        case round =>
          obtain ⟨j, m, r, hj, rfl, rfl, hr, hok, rfl⟩ := hrel
          by_cases hlt : j + 1 < xs.length
          · obtain ⟨b, off, rfl, hb, hc⟩ := HF.out.at_ hlt
            obtain ⟨b', off', e', hb', hc'⟩ := HF.out.at_ (show j < xs.length by omega)
            simp only [Option.some.injEq, Addr.mk.injEq] at e'
            obtain ⟨rfl, rfl, -⟩ := e'
            have hx := HFI.out (j + 1) hlt
            have hy := HFI.out j (by omega)
            obtain ⟨s0, s2⟩ := fop_sure (sub_num (k := .f32) hx hy)
            have s1 : ∀ w, fopV .sub .f32 (xs.getD (j + 1) 0) (xs.getD j 0) w = trD xs j := s0
            clear s0
            have HS : Hid (sumT xs (j + 1) = fop .add .f32 (sumT xs j) (canon .f32 (abs32 (wrapT (trD xs j))))) := rfl
            have HK : Hid (okT xs (j + 1) = fin .f32 (trD xs j)) := Lib.hid (by show (okT xs j && _) = _; rw [hok.out]; rfl)
            have HNO : Hid (fin .f32 (trD xs j) = false → trnO xs = false) := Lib.hid fun hh => by
              unfold trnO
              rw [okT_no (k := j + 1) (by rw [HK.out]; exact hh) (by omega)]; simp
            have HFD : Hid (fin .f32 (trD xs j) = true → fin .f32 (wrapT (trD xs j)) = true) := Lib.hid fun hh => bd_fin (wrapT_bd hh)
            clear hx hy hb hb'
            generalize xs.getD (j + 1) 0 = x at hc s1 s2
            generalize xs.getD j 0 = y at hc' s1 s2
            generalize trD xs j = D at s1 HS HK HNO HFD
            cases hD : fin .f32 D
            · have HO := Lib.hid (HNO.out hD)
              have HR : Hid (trnR xs = 0) := Lib.hid (by unfold trnR; rw [HO.out]; rfl)
              go_wp2_with fail
              go_quiet (fail)
              go_wp2_with fail
              refine (s_l01Finite _ _).mono ?_
              rintro e w' ⟨n2, rfl, rfl⟩
              rw [hD]
              go_wp2
              go_ret2
              exact ⟨_, _, by rw [HO.out]; rfl, by rw [HR.out]; exact canon_zero, by first | rfl | (simp only [World.drewN_drewN]; rfl)⟩
            · have HD := Lib.hid hD
              have hw := HFD.out hD
              go_wp2_with fail
              go_quiet (fail)
              go_wp2_with fail
              refine (s_l01Finite _ _).mono ?_
              rintro e w' ⟨n2, rfl, rfl⟩
              rw [hD]
              go_wp2_with fail
              refine (s_l02Wrap D HD.out _).mono ?_
              rintro e w' ⟨rfl, rfl⟩
              go_wp2_with fail
              refine (s_l07Size _ hw _).mono ?_
              rintro e w' ⟨rfl, rfl⟩
              go_wp2
              go_roundw
              case rel => exact ⟨j + 1, _, _, by omega, by go_num, rfl, Lib.hid (by rw [canon_fopV, siz_add hw, hr.out, HS.out]), Lib.hid (by rw [HK.out]; exact HD.out), by first | rfl | (simp only [World.drewN_drewN]; rfl)⟩
              case measure => simp [intOf]; omega
          · have HO : Hid (trnO xs = true) := Lib.hid (by
              unfold trnO
              rw [hv.out, decide_eq_true h128, show xs.length - 1 = j by omega, hok.out]; rfl)
            have HR : Hid (trnR xs = sumT xs j) := Lib.hid (by unfold trnR; rw [HO.out, show xs.length - 1 = j by omega]; rfl)
            go_wp2
            go_ret2
            exact ⟨_, _, by rw [HO.out]; rfl, by rw [HR.out]; exact hr.out, rfl⟩
  · have HO : Hid (trnO xs = false) := Lib.hid (by unfold trnO; rw [decide_eq_false h128]; rfl)
    have HR : Hid (trnR xs = 0) := Lib.hid (by unfold trnR; rw [HO.out]; rfl)
    rw [HO.out, HR.out]
    go_enter Try.func42, Try.ntmps42
    go_wp2
    go_ret2
    first | exact ⟨0, 0, rfl, canon_zero, rfl⟩ | exact ⟨_, _, rfl, canon_zero, rfl⟩ | exact ⟨_, rfl, canon_zero, 0, rfl⟩ | exact ⟨_, rfl, canon_zero, _, rfl⟩
end Go.Proofs.Ytmcfnkfcklcpnab
