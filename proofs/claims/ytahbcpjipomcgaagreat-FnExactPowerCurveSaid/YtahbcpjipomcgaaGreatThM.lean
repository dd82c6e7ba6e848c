/- Sums along a blade: both sides. No statement is proved here. -/
import Derived.Test.YtahbcpjipomcgaaGreatArea
import Derived.Test.YtahbcpjipomcgaaGreatRotL
import Derived.Deep.Cut
namespace Go.Proofs.YtahbcpjipomcgaaGreat
open Go Go.RowKit
/-- the sum along the first k ways between stations -/
def abS (s : List Nat) (q : Nat → Nat) : Nat → Nat
  | 0 => 0
  | k + 1 => fop .add .f32 (abS s q k) (fop .mul .f32 (fop .sub .f32 (canon .f32 (rad s (k + 1))) (canon .f32 (rad s k))) (fop .mul .f32 (canon .f32 1056964608) (fop .add .f32 (q k) (q (k + 1)))))
theorem abS_congr {s : List Nat} {q q' : Nat → Nat} : ∀ {k : Nat}, (∀ j, j ≤ k → q j = q' j) → abS s q k = abS s q' k := by
  intro k; induction k with
  | zero => intro _; rfl
  | succ k ih => intro h; simp only [abS, ih (fun j hj => h j (by omega)), h k (by omega), h (k + 1) (by omega)]
set_option maxHeartbeats 8000000 in
set_option maxRecDepth 100000 in
theorem i_alongBlade (S A : Option Addr) (n cs cap : Nat) (s xs : List Nat) (w : World) (hS : Fl w S s) (hs : s.length = n * 3) (hA : Fl w A xs) (hx : xs.length = n) (h2 : 2 ≤ n) (hn : n ≤ 12) (hcs : n ≤ cs) :
    Calls Tryz.prog 54 #[.slice S n cs, .slice A n cap] w fun e w' => ∃ r, e = .returned (.float .f32 r) ∧ canon .f32 r = abS s (fun k => canon .f32 (xs.getD k 0)) (n - 1) ∧ Below w.heap.size w w' := by
  obtain ⟨b, off, rfl, hb, -⟩ := hS.at_ (k := 0) (by omega)
  obtain ⟨ba, oa, rfl, hba, -⟩ := hA.at_ (k := 0) (by omega)
  have HF := Lib.hid hS
  have HA := Lib.hid hA
  have HSL := Lib.hid hs
  have HXL := Lib.hid hx
  clear hS hA hs hx
  go_enter Tryz.func54, Tryz.ntmps54
  go_wp2_with fail
  go_loopw [5, 12] (fun sm i wr => ∃ k r : Nat, k ≤ n - 1 ∧ i = .int .i64 k ∧ sm = .float .f32 r ∧ Hid (canon .f32 r = abS s (fun k => canon .f32 (xs.getD k 0)) k) ∧ Hid (Below w.heap.size w wr)) (fun _ i _ => n - 1 - (intOf i).toNat)
  case atStart => exact ⟨0, 0, Nat.zero_le _, rfl, rfl, canon_zero, Lib.hid (Below.refl _ _)⟩
  case round =>
    obtain ⟨k, r, hk, rfl, rfl, hr, HB⟩ := hrel
    by_cases hlt : k < n - 1
    · have hk1 : k + 1 < n := by omega
      have FW := HF.out.below HB.out
      have FA := HA.out.below HB.out
      have hl := HSL.out
      have hxl := HXL.out
      have c0 := FW.same rfl (k := k * 3) (by omega)
      have c3 := FW.same rfl (k := (k + 1) * 3) (by omega)
      have c4 := FW.same rfl (k := (k + 1) * 3 + 1) (by omega)
      have c5 := FW.same rfl (k := (k + 1) * 3 + 2) (by omega)
      have x0 := FA.same rfl (k := k) (by omega)
      have x1 := FA.same rfl (k := k + 1) (by omega)
      rw [show off + (k + 1) * 3 = off + 3 + k * 3 by omega] at c3
      rw [show off + ((k + 1) * 3 + 1) = off + 3 + k * 3 + 1 by omega] at c4
      rw [show off + ((k + 1) * 3 + 2) = off + 3 + k * 3 + 2 by omega] at c5
      have HE : Hid (abS s (fun k => canon .f32 (xs.getD k 0)) (k + 1) = fop .add .f32 (abS s (fun k => canon .f32 (xs.getD k 0)) k) (fop .mul .f32 (fop .sub .f32 (canon .f32 (s.getD ((k + 1) * 3) 0)) (canon .f32 (s.getD (k * 3) 0))) (fop .mul .f32 (canon .f32 1056964608) (fop .add .f32 (canon .f32 (xs.getD k 0)) (canon .f32 (xs.getD (k + 1) 0)))))) := rfl
      clear FW FA
      generalize s.getD (k * 3) 0 = u0 at c0 HE
      generalize s.getD ((k + 1) * 3) 0 = u3 at c3 HE
      generalize s.getD ((k + 1) * 3 + 1) 0 = u4 at c4
      generalize s.getD ((k + 1) * 3 + 2) 0 = u5 at c5
      generalize xs.getD k 0 = y0 at x0 HE
      generalize xs.getD (k + 1) 0 = y1 at x1 HE
      obtain ⟨wz, hwz⟩ : ∃ q, q = wr.alloc (.cells #[.float .f32 u3, .float .f32 u4, .float .f32 u5] 68) := ⟨_, rfl⟩
      have bz : Below wr.heap.size wr wz := by rw [hwz]; exact (Below.refl _ _).alloc (Nat.le_refl _) _
      have Bz : Hid (Below w.heap.size w wz) := Lib.hid (below_of HB.out HB.out.size bz)
      have hbw : b < wr.heap.size := Nat.lt_of_lt_of_le hb HB.out.size
      have hbaw : ba < wr.heap.size := Nat.lt_of_lt_of_le hba HB.out.size
      have d0 : wz.cell? ⟨b, off + k * 3, none⟩ = some (.float .f32 u0) := (bz.cell (p := ⟨b, off + k * 3, none⟩) hbw).trans c0
      have e0 : wz.cell? ⟨ba, oa + k, none⟩ = some (.float .f32 y0) := (bz.cell (p := ⟨ba, oa + k, none⟩) hbaw).trans x0
      have e1 : wz.cell? ⟨ba, oa + (k + 1), none⟩ = some (.float .f32 y1) := (bz.cell (p := ⟨ba, oa + (k + 1), none⟩) hbaw).trans x1
      have dz : wz.cell? ⟨wr.heap.size, 0, none⟩ = some (.float .f32 u3) := by rw [hwz]; exact ((blkL_at wr #[.float .f32 u3, .float .f32 u4, .float .f32 u5] 68 rfl).2 0 _ rfl).1
      have hwr : IntKind.i64.wrap ((k : Int) + 1) = (k : Int) + 1 := IntWalk.i64_in _ (by omega)
      have hge : (0 : Int) ≤ (k : Int) + 1 := by omega
      have hlt1 : (k : Int) + 1 < (n : Int) := by omega
      have htn : ((k : Int) + 1).toNat = k + 1 := by omega
      clear hl hxl bz c0 x0 x1 hbw hbaw
      go_wp2_with fail
      rw [← hwz]
      clear hwz c3 c4 c5
      go_region_with (fail)
      all_goals
        go_wp2_with fail
        go_region_with (go_at_call 78; refine (i_mulNumbers _ _ _).mono ?_; rintro e w' ⟨rfl, rfl⟩)
        all_goals
          go_wp2
          go_roundw
          case rel => exact ⟨k + 1, _, by omega, by go_num, rfl, Lib.hid (by rw [HE.out, ← hr.out]; simp only [canon_fopV]), Lib.hid (by repeat (first | exact Bz.out | refine below_draws ?_ _))⟩
          case measure => simp [intOf]; omega
    · have hkk : k = n - 1 := by omega
      subst hkk
      go_wp2
      go_ret
      exact ⟨r, rfl, hr.out, HB.out⟩
set_option maxHeartbeats 8000000 in
set_option maxRecDepth 100000 in
theorem s_l03Sum (A L D S : Option Addr) (ca cl cd n cs : Nat) (c : Int) (hub tip : Nat) (a l d s : List Nat) (B cap : Nat) (X : Option Addr) (xs : List Nat) (w : World) (hS : Fl w S s) (hs : s.length = n * 3) (hA : Fl w X xs) (hx : xs.length = n) (h2 : 2 ≤ n) (hn : n ≤ 12) (hk : Blk7 w B A L D S a l d ca cl cd n cs c hub tip) :
    Calls Tryz.prog 52 #[.pointer (some ⟨B, 0, none⟩), .slice X n cap] w fun e w' => ∃ r, e = .returned (.float .f32 r) ∧ canon .f32 r = abS s (fun k => canon .f32 (xs.getD k 0)) (n - 1) ∧ ∃ m, w' = w.drewN m := by
  obtain ⟨b, off, rfl, hb, -⟩ := hS.at_ (k := 0) (by omega)
  obtain ⟨ba, oa, rfl, hba, -⟩ := hA.at_ (k := 0) (by omega)
  have HF := Lib.hid hS
  have HA := Lib.hid hA
  have HSL := Lib.hid hs
  have HXL := Lib.hid hx
  obtain ⟨k0, k1, k2, k3, k4, k5, k6⟩ := hk.limbs
  clear hS hA hs hx hk k0 k1 k2 k4 k5 k6 hb hba
  go_enter Tryz.func52, Tryz.ntmps52
  go_wp2_with fail
  go_loopw [5, 6] (fun sm i wr => ∃ k m r : Nat, k ≤ n - 1 ∧ i = .int .i64 k ∧ sm = .float .f32 r ∧ Hid (canon .f32 r = abS s (fun k => canon .f32 (xs.getD k 0)) k) ∧ wr = w.drewN m) (fun _ i _ => n - 1 - (intOf i).toNat)
  case atStart => exact ⟨0, 0, 0, Nat.zero_le _, rfl, rfl, canon_zero, rfl⟩
  case round =>
    obtain ⟨k, m, r, hk, rfl, rfl, hr, rfl⟩ := hrel
    have hwr : IntKind.i64.wrap ((k : Int) + 1) = (k : Int) + 1 := IntWalk.i64_in _ (by omega)
    by_cases hlt : k < n - 1
    · have hk1 : k + 1 < n := by omega
      have hl := HSL.out
      have hxl := HXL.out
      have c0 := HF.out.same rfl (k := k * 3) (by omega)
      have c3 := HF.out.same rfl (k := (k + 1) * 3) (by omega)
      have x0 := HA.out.same rfl (k := k) (by omega)
      have x1 := HA.out.same rfl (k := k + 1) (by omega)
      have HE : Hid (abS s (fun k => canon .f32 (xs.getD k 0)) (k + 1) = fop .add .f32 (abS s (fun k => canon .f32 (xs.getD k 0)) k) (fop .mul .f32 (fop .sub .f32 (canon .f32 (s.getD ((k + 1) * 3) 0)) (canon .f32 (s.getD (k * 3) 0))) (fop .mul .f32 (canon .f32 1056964608) (fop .add .f32 (canon .f32 (xs.getD k 0)) (canon .f32 (xs.getD (k + 1) 0)))))) := rfl
      generalize s.getD (k * 3) 0 = u0 at c0 HE
      generalize s.getD ((k + 1) * 3) 0 = u3 at c3 HE
      generalize xs.getD k 0 = y0 at x0 HE
      generalize xs.getD (k + 1) 0 = y1 at x1 HE
      have hge : (0 : Int) ≤ (k : Int) + 1 := by omega
      have hlt1 : (k : Int) + 1 < (n : Int) := by omega
      have htn : ((k : Int) + 1).toNat = k + 1 := by omega
      clear hl hxl
      go_wp2_with fail
      go_region_with (fail)
      all_goals
        go_wp2_with fail
        go_region_with (fail)
        all_goals
          go_wp2
          go_roundw
          case rel => exact ⟨k + 1, _, _, by omega, by go_num, rfl, Lib.hid (by rw [HE.out, ← hr.out]; simp only [canon_fopV]), rfl⟩
          case measure => simp [intOf]; omega
    · have hkk : k = n - 1 := by omega
      have hle : n ≤ k + 1 := by omega
      have hk1 : ¬ k + 1 < n := by omega
      have hlt1 : ¬ ((k : Int) + 1 < (n : Int)) := by omega
      have hle1 : (n : Int) ≤ (k : Int) + 1 := by omega
      subst hkk
      go_wp2
      go_ret
      exact ⟨r, rfl, hr.out, m, rfl⟩
end Go.Proofs.YtahbcpjipomcgaaGreat
