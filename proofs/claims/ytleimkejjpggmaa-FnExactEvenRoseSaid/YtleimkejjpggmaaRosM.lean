/- The mean of a rose: both sides. No statement is proved here. -/
import Derived.Test.YtleimkejjpggmaaRose
import Derived.Test.YtleimkejjpggmaaList
namespace Go.Proofs.Ytleimkejjpggmaa
open Go Go.RowKit
def prodAt (xs ys : List Nat) (k : Nat) : Nat := fop .mul .f32 (canon .f32 (xs.getD k 0)) (canon .f32 (ys.getD k 0))
def mrV (a l : List Nat) : Nat := fop .quo .f32 (dotK a l a.length) (sumK a a.length)
def mrO (a l : List Nat) : Bool := rosV a l && fin .f32 (mrV a l)
def mrR (a l : List Nat) : Nat := if rosV a l then onlyN (mrV a l) else 0
theorem sumK_dot {xs ys zs : List Nat} {n : Nat} (h : ∀ k, k < n → canon .f32 (zs.getD k 0) = prodAt xs ys k) : ∀ k, k ≤ n → sumK zs k = dotK xs ys k := by
  intro k; induction k with
  | zero => intro _; rfl
  | succ k ih => intro hk; simp only [sumK, dotK, ih (by omega), h k (by omega)]; rfl
theorem canon_sumK (xs : List Nat) : ∀ k, canon .f32 (sumK xs k) = sumK xs k := by
  intro k; cases k with
  | zero => exact canon_zero
  | succ k => exact canon_fop ..
set_option maxHeartbeats 4000000 in
theorem s_l04Shares (A L : Option Addr) (ca cl : Nat) (a l : List Nat) (B : Nat) (w : World) (h : Rs w A L a l) (hn : FewS a l) (hk : BlkL w B [.slice A a.length ca, .slice L l.length cl]) :
    Calls Try.prog 58 #[.pointer (some ⟨B, 0, none⟩)] w fun e w' => ∃ r n, e = .returned (.float .f32 r) ∧ canon .f32 r = sumK a a.length ∧ w' = w.drewN n := by
  unfold FewS at hn
  have HP := Lib.hid h; clear h
  obtain ⟨k0, k1⟩ := hk.two
  clear hk
  go_enter Try.func58, Try.ntmps58
  go_wp2
  go_loopw [3, 4] (fun s i wr => ∃ k n r : Nat, k ≤ a.length ∧ i = .int .i64 k ∧ s = .float .f32 r ∧ Hid (canon .f32 r = sumK a k) ∧ wr = w.drewN n) (fun _ i _ => a.length - (intOf i).toNat)
  case atStart => exact ⟨0, 0, 0, Nat.zero_le _, rfl, rfl, canon_zero, rfl⟩
  case round =>
    obtain ⟨k, n, r, hk, rfl, rfl, hr, rfl⟩ := hrel
    by_cases hlt : k < a.length
    · obtain ⟨b, off, rfl, hb, hc⟩ := HP.out.1.at_ hlt
      have HS : Hid (sumK a (k + 1) = fop .add .f32 (sumK a k) (canon .f32 (a.getD k 0))) := rfl
      generalize a.getD k 0 = x at hc HS
      go_wp2
      go_roundw
      case rel => exact ⟨k + 1, _, _, by omega, by go_num, rfl, Lib.hid (by rw [canon_fopV, hr.out, HS.out]), rfl⟩
      case measure => simp [intOf]; omega
    · have hkk : k = a.length := by omega
      subst hkk
      go_wp2
      go_ret
      exact ⟨_, _, rfl, hr.out, rfl⟩
end Go.Proofs.Ytleimkejjpggmaa
