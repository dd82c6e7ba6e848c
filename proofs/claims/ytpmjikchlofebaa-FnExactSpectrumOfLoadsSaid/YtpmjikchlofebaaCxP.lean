/- Lists of complex64: compared, marked. No statement is proved here. -/
import Derived.Test.YtpmjikchlofebaaMkZ
import Derived.Test.YtpmjikchlofebaaPhaW
import Derived.Laws.ComplexArith
import Derived.Laws.Cover3
namespace Go.Proofs.Ytpmjikchlofebaa
open Go Go.RowKit
theorem ofInt_bd64 (n : Int) (h : n.natAbs ≤ 2 ^ 24) : Bd .f64 24 (floatOfInt .f64 n) := by
  have hb : Le2 n.natAbs 0 24 := ⟨h, fun h' => by omega⟩
  exact bd_write fmt64 hb (by decide) (by decide)
theorem one_sure : (∀ w, narrowV 4607182418800017408 w = 1065353216) ∧ narrowN 4607182418800017408 = 0 := by
  have h := narrow_sure (b := 4607182418800017408) (by decide +kernel) (by decide +kernel)
  exact ⟨fun w => (h.1 w).trans (by decide +kernel), h.2⟩
section
variable {P : Program}
theorem run_ftf_wide (b : Nat) (w : World) : (Conv.floatToFloat .f32 b .f64).run P w = .ok (.float .f64 (wideV b w)) (w.drewN (wideN b)) := by
  unfold wideV wideN
  cases hd' : FloatKind.f32.decode b with
  | nan s f =>
    have hn : isn .f32 b = true := isn_iff.2 ⟨s, f, hd'⟩
    simp [Conv.floatToFloat, hd', hn, Question.forced, World.drew_is_drewN]
  | infinity s =>
    have hn : isn .f32 b = false := by unfold isn; rw [hd']; rfl
    simp [Conv.floatToFloat, hd', hn, World.drewN_zero]
  | number s m e =>
    have hn : isn .f32 b = false := by unfold isn; rw [hd']; rfl
    have hf := wide_fin hd'
    simp [Conv.floatToFloat, hd', hn, World.drewN_zero, hf]
theorem run_ftf_narrow (b : Nat) (w : World) : (Conv.floatToFloat .f64 b .f32).run P w = .ok (.float .f32 (narrowV b w)) (w.drewN (narrowN b)) := by
  unfold narrowV narrowN over
  cases hd' : FloatKind.f64.decode b with
  | nan s f =>
    have hn : isn .f64 b = true := isn_iff.2 ⟨s, f, hd'⟩
    simp [Conv.floatToFloat, hd', hn, Question.forced, World.drew_is_drewN]
  | infinity s =>
    have hn : isn .f64 b = false := by unfold isn; rw [hd']; rfl
    simp [Conv.floatToFloat, hd', hn, World.drewN_zero]
  | number s m e =>
    have hn : isn .f64 b = false := by unfold isn; rw [hd']; rfl
    cases ho : (FloatKind.f32.decode (FloatKind.f32.encode (.number s m e))).isInfinity <;>
      simp [Conv.floatToFloat, hd', hn, ho, Question.forced, World.drewN_zero, World.drew_is_drewN]
theorem run_cnarrow (src dst : TypeId) (a b : Nat) (w : World) (hs : (P.underlying src).isSome = true) (hd : P.underlying dst = some (.complex .f32)) :
    (convert src dst (.complex .f64 a b)).run P w = .ok (.complex .f32 (narrowV a w) (narrowV b (w.drewN (narrowN a)))) ((w.drewN (narrowN a)).drewN (narrowN b)) := by
  obtain ⟨u, hs'⟩ := Option.isSome_iff_exists.1 hs
  cases u <;> simp [convert, run_underlying hs', run_underlying hd, Conv.complexToComplex, run_ftf_narrow]
end
@[go_sem] theorem conv_cnarrow (a b : Nat) (w : World) : (convert 130 126 (.complex .f64 a b)).run Try.prog w = .ok (.complex .f32 (narrowV a w) (narrowV b (w.drewN (narrowN a)))) ((w.drewN (narrowN a)).drewN (narrowN b)) :=
  run_cnarrow _ _ a b w (by kernel_rfl) (by kernel_rfl)
set_option maxHeartbeats 4000000 in
theorem l_eqC64 (A B : Option Addr) (cap cap' : Nat) (xs : List (Nat × Nat)) (w : World) (h : FlZ w A xs) (h' : FlZ w B xs) (hn : xs.length ≤ 1048576) :
    Calls Try.prog 45 #[.slice A xs.length cap, .slice B xs.length cap'] w fun e w' => ∃ n, e = .returned (.bool true) ∧ w' = w.drewN n := by
  go_enter Try.func45, Try.ntmps45
  go_wp2
  go_loopw [5] (fun i wr => ∃ k n : Nat, k ≤ xs.length ∧ i = .int .i64 k ∧ wr = w.drewN n) (fun i _ => xs.length - (intOf i).toNat)
  case atStart => exact ⟨0, 0, Nat.zero_le _, rfl, rfl⟩
  case round =>
    obtain ⟨k, n, hk, rfl, rfl⟩ := hrel
    by_cases hlt : k < xs.length
    · obtain ⟨b, off, rfl, hb, hc⟩ := h.at_ hlt
      obtain ⟨b', off', rfl, hb', hc'⟩ := h'.at_ hlt
      have HF := Lib.hid h; clear h
      have HF' := Lib.hid h'; clear h'
      generalize xs.getD k (0, 0) = xy at hc hc'
      obtain ⟨x, y⟩ := xy
      unfold cxV at hc hc'
      go_wp2
      clear hb hb' HF HF'
      go_region_with (go_at_call 109; refine (sameComplex_yes _ _ _ _ _ (by rw [canon_wideV, canon_wideV]) (by rw [canon_wideV, canon_wideV])).mono ?_; rintro e w' ⟨m, rfl, rfl⟩)
      all_goals
        go_wp2
        go_roundw
        case rel => exact ⟨k + 1, _, by omega, by go_num, rfl⟩
        case measure => simp [intOf]; omega
    · go_wp2
      go_ret
      exact ⟨_, rfl, rfl⟩
set_option maxHeartbeats 2000000 in
theorem l_markC64 (A : Option Addr) (B cap k0 : Nat) (xs : List (Nat × Nat)) (w : World) (h : OwnAZ w A B xs) (hn : xs.length ≤ 1048576) (hk0 : k0 ≤ 4194304) (K : Int) (hK : K = (k0 : Int)) :
    Calls Try.prog 46 #[.slice A xs.length cap, .int .i64 K] w fun e w' => e = .returned (.int .i64 ((k0 : Int) + (xs.length : Int))) ∧ (xs = [] ∨ OwnZ w' B (marksZ k0 xs.length)) ∧ Turn w w' (SBZ xs B) := by
  subst hK
  have H := Lib.hid h; clear h
  go_enter Try.func46, Try.ntmps46
  go_wp2
  go_loopw [1, 5] (fun q i wr => ∃ k : Nat, k ≤ xs.length ∧ i = .int .i64 k ∧ q = .int .i64 ((k0 : Int) + (k : Int)) ∧ Hid (OwnAZ wr A B (halfZ xs k0 k)) ∧ Hid (Turn w wr (SBZ xs B))) (fun _ i _ => xs.length - (intOf i).toNat)
  case atStart => exact ⟨0, Nat.zero_le _, rfl, by simp, Lib.hid (by rw [half_zeroZ]; exact H.out), Lib.hid (Turn.refl _ _)⟩
  case round =>
    obtain ⟨k, hk, rfl, rfl, HO, HT⟩ := hrel
    by_cases hlt : k < xs.length
    · rcases HO.out with h0 | ⟨rfl, ho⟩
      · have := congrArg List.length h0
        rw [half_lengthZ] at this
        rw [this] at hlt; cases hlt
      · obtain ⟨hc, hf⟩ := ho.2 k (by rw [half_lengthZ]; exact hlt)
        have HS : Hid (OwnAZ (wr.setCell ⟨B, k, none⟩ (cxV (narrow (floatOfInt .f64 ((k0 : Int) + (k : Int))), 1065353216))) (some ⟨B, 0, none⟩) B (halfZ xs k0 (k + 1))) := Lib.hid (.inr ⟨rfl, ho.mark hlt⟩)
        have HT2 : Hid (Turn w (wr.setCell ⟨B, k, none⟩ (cxV (narrow (floatOfInt .f64 ((k0 : Int) + (k : Int))), 1065353216))) (SBZ xs B)) := Lib.hid (HT.out.trans ((Turn.set wr ⟨B, k, none⟩ rfl _).mono (fun b hb => ⟨(by intro h0; rw [h0] at hlt; cases hlt), hb⟩)))
        clear ho HO H HT
        obtain ⟨n1, n2⟩ := narrow_bd_sure (ofInt_bd64 ((k0 : Int) + (k : Int)) (by omega)) (by decide) (by decide)
        obtain ⟨c1, c2⟩ : (∀ w, narrowV 4607182418800017408 w = 1065353216) ∧ narrowN 4607182418800017408 = 0 := one_sure
        go_wp2
        go_roundw
        case rel => exact ⟨k + 1, by omega, by go_num, congrArg (Value.int IntKind.i64) (by omega), HS, HT2⟩
        case measure => simp [intOf]; omega
    · have hkk : k = xs.length := by omega
      subst hkk
      go_wp2
      go_ret
      refine ⟨rfl, ?_, HT.out⟩
      rcases HO.out with h0 | ⟨-, ho⟩
      · left
        have := congrArg List.length h0
        rw [half_lengthZ] at this
        exact List.eq_nil_of_length_eq_zero this
      · rw [half_allZ] at ho; exact .inr ho
set_option maxHeartbeats 2000000 in
theorem l_heldC64 (A : Option Addr) (B cap k0 n : Nat) (w : World) (h : OwnAZ w A B (marksZ k0 n)) (hn : n ≤ 1048576) (hk0 : k0 ≤ 4194304) (K : Int) (hK : K = (k0 : Int)) :
    Calls Try.prog 47 #[.slice A n cap, .int .i64 K] w fun e w' => ∃ m, e = .returned (.int .i64 ((k0 : Int) + (n : Int))) ∧ w' = w.drewN m := by
  subst hK
  have H := Lib.hid h; clear h
  go_enter Try.func47, Try.ntmps47
  go_wp2
  go_loopw [1, 5] (fun q i wr => ∃ k m : Nat, k ≤ n ∧ i = .int .i64 k ∧ q = .int .i64 ((k0 : Int) + (k : Int)) ∧ wr = w.drewN m) (fun _ i _ => n - (intOf i).toNat)
  case atStart => exact ⟨0, 0, Nat.zero_le _, rfl, by simp, rfl⟩
  case round =>
    obtain ⟨k, m, hk, rfl, rfl, rfl⟩ := hrel
    by_cases hlt : k < n
    · rcases H.out with h0 | ⟨rfl, ho⟩
      · have := congrArg List.length h0
        rw [marks_lengthZ] at this
        rw [this] at hlt; cases hlt
      · obtain ⟨hc, -⟩ := ho.2 k (by rw [marks_lengthZ]; exact hlt)
        rw [marks_atZ hlt] at hc
        unfold cxV at hc
        have ho1 : (FloatKind.f32.format.order (narrow (floatOfInt .f64 ((k0 : Int) + (k : Int)))) (narrow (floatOfInt .f64 ((k0 : Int) + (k : Int)))) == some .eq) = true := by rw [order_self, bd_not_nan (narrow_bd (ofInt_bd64 _ (by omega)) (by decide) (by decide)).2]; rfl
        have ho2 : (FloatKind.f32.format.order 1065353216 1065353216 == some .eq) = true := by decide +kernel
        clear ho H
        obtain ⟨n1, n2⟩ := narrow_bd_sure (ofInt_bd64 ((k0 : Int) + (k : Int)) (by omega)) (by decide) (by decide)
        obtain ⟨c1, c2⟩ : (∀ w, narrowV 4607182418800017408 w = 1065353216) ∧ narrowN 4607182418800017408 = 0 := one_sure
        go_wp2
        go_roundw
        case rel => exact ⟨k + 1, _, by omega, by go_num, congrArg (Value.int IntKind.i64) (by omega), by first | rfl | (simp only [World.drewN_drewN]; rfl)⟩
        case measure => simp [intOf]; omega
    · have hkk : k = n := by omega
      subst hkk
      go_wp2
      go_ret
      exact ⟨_, rfl, rfl⟩
end Go.Proofs.Ytpmjikchlofebaa
