/- CutProfile: the part of a profile. No statement is proved here. -/
import Derived.Test.YtplofbkollhjpaaCutM
import Derived.Test.YtplofbkollhjpaaDrpI
import Derived.RegionTactic
import Derived.BigRegion
namespace Go.Proofs.Ytplofbkollhjpaa
open Go Go.RowKit
def ptrP (b off f e : Nat) : Option Addr := if e = f then some ⟨b, off, none⟩ else some ⟨b, off + f, none⟩
theorem Fl.part {w : World} {b off f e : Nat} {xs : List Nat} (h : Fl w (some ⟨b, off, none⟩) xs) (h1 : f ≤ e) (h2 : e ≤ xs.length) : Fl w (ptrP b off f e) ((xs.take e).drop f) := by
  unfold ptrP
  by_cases hh : e = f
  · rw [if_pos hh]; exact Fl.dropE (by rw [List.length_take]; omega)
  · rw [if_neg hh]; exact (h.takeP h2).dropP
set_option maxHeartbeats 16000000 in
set_option maxRecDepth 100000 in
theorem i_partOf (ba oa bl ol bd od n nl nd ca cl cd lo hi : Nat) (a : List Nat) (w : World) (hA : Fl w (some ⟨ba, oa, none⟩) a) (hl : a.length = n) (hca : n ≤ ca) (hcl : n ≤ cl) (hcd : n ≤ cd) (hn : n ≤ 24) (hv : angs a n = true) :
    Calls Try.prog 86 #[.agg #[.slice (some ⟨ba, oa, none⟩) n ca, .slice (some ⟨bl, ol, none⟩) nl cl, .slice (some ⟨bd, od, none⟩) nd cd], .float .f32 lo, .float .f32 hi] w fun e w' =>
      e = .returned (.agg #[.slice (ptrP ba oa (cutF a lo hi n).1 (cutF a lo hi n).2) ((cutF a lo hi n).2 - (cutF a lo hi n).1) ((cutF a lo hi n).2 - (cutF a lo hi n).1), .slice (ptrP bl ol (cutF a lo hi n).1 (cutF a lo hi n).2) ((cutF a lo hi n).2 - (cutF a lo hi n).1) ((cutF a lo hi n).2 - (cutF a lo hi n).1), .slice (ptrP bd od (cutF a lo hi n).1 (cutF a lo hi n).2) ((cutF a lo hi n).2 - (cutF a lo hi n).1) ((cutF a lo hi n).2 - (cutF a lo hi n).1)]) ∧ Below w.heap.size w w' := by
  have HL := Lib.hid hl
  have HI : Hid (∀ k, k ≤ n → (cutF a lo hi k).1 ≤ (cutF a lo hi k).2 ∧ (cutF a lo hi k).2 ≤ k) := Lib.hid (fun k hk => by
    obtain ⟨i1, i2, -⟩ := cut_inv (xs := a) (lo := lo) (hi := hi) hv (by omega) k hk
    exact ⟨i1, i2⟩)
  clear hl hv
  have HA := Lib.hid hA
  clear hA
  obtain ⟨w1, hw1⟩ : ∃ x, x = (w.alloc (.cells #[.slice (some ⟨ba, oa, none⟩) n ca, .slice (some ⟨bl, ol, none⟩) nl cl, .slice (some ⟨bd, od, none⟩) nd cd] 24)).alloc (.cells #[.slice none 0 0, .slice none 0 0, .slice none 0 0] 24) := ⟨_, rfl⟩
  have L0 : Hid (BlkL w1 w.heap.size [.slice (some ⟨ba, oa, none⟩) n ca, .slice (some ⟨bl, ol, none⟩) nl cl, .slice (some ⟨bd, od, none⟩) nd cd]) := Lib.hid (by rw [hw1]; exact (blkL_at w #[.slice (some ⟨ba, oa, none⟩) n ca, .slice (some ⟨bl, ol, none⟩) nl cl, .slice (some ⟨bd, od, none⟩) nd cd] _ rfl).alloc _)
  have LR : Hid (BlkL w1 (w.heap.size + 1) [.slice none 0 0, .slice none 0 0, .slice none 0 0]) := Lib.hid (by rw [hw1]; exact blkL_at (w.alloc _) #[.slice none 0 0, .slice none 0 0, .slice none 0 0] _ (by simp))
  have B1 : Hid (Below w.heap.size w w1) := Lib.hid (by rw [hw1]; exact ((Below.refl _ _).alloc (Nat.le_refl _) _).alloc (by simp) _)
  obtain ⟨k0, k1, k2⟩ := L0.out.three
  rw [hw1] at k0
  go_enter Try.func86, Try.ntmps86
  go_wp2
  rw [← hw1]
  clear hw1 k0
  obtain ⟨k0, k1, k2⟩ := L0.out.three
  go_loopw [7, 8, 14] (fun f e i wr => ∃ k : Nat, k ≤ n ∧ i = .int .i64 k ∧ f = .int .i64 (((cutF a lo hi k).1 : Nat) : Int) ∧ e = .int .i64 (((cutF a lo hi k).2 : Nat) : Int) ∧ wr = w1) (fun _ _ i _ => n - (intOf i).toNat)
  case atStart => exact ⟨0, Nat.zero_le _, rfl, rfl, rfl, rfl⟩
  case round =>
    obtain ⟨k, hk, rfl, rfl, rfl, hwr⟩ := hrel
    rw [hwr]
    clear hwr
    obtain ⟨hi1, hi2⟩ := HI.out k hk
    by_cases hlt : k < n
    · have hc := (HA.out.below B1.out).same rfl (show k < a.length by have := HL.out; omega)
      have HF : Hid (cutF a lo hi (k + 1) = if within (a.getD k 0) lo hi then ((if (cutF a lo hi k).1 = (cutF a lo hi k).2 then k else (cutF a lo hi k).1), k + 1) else cutF a lo hi k) := rfl
      obtain ⟨fs, hfs⟩ : ∃ x, x = (cutF a lo hi k).1 := ⟨_, rfl⟩
      obtain ⟨en, hen⟩ : ∃ x, x = (cutF a lo hi k).2 := ⟨_, rfl⟩
      rw [← hfs, ← hen] at hi1 HF
      rw [← hen] at hi2
      rw [← hfs, ← hen]
      have HFS := Lib.hid hfs
      have HEN := Lib.hid hen
      clear hfs hen
      generalize a.getD k 0 = x at hc HF
      go_wp2_with fail
      refine (i_isWithin _ _ _ _).mono ?_
      rintro e wz ⟨rfl, hwz⟩
      rw [hwz]
      clear hwz
      cases hs : within x lo hi
      · have HE2 : Hid (cutF a lo hi (k + 1) = cutF a lo hi k) := Lib.hid (by rw [HF.out, hs]; rfl)
        clear hs
        go_wp2
        go_roundw
        case rel => exact ⟨k + 1, by omega, by go_num, by rw [HE2.out, ← HFS.out], by rw [HE2.out, ← HEN.out], by first | rfl | trivial⟩
        case measure => simp [intOf]; omega
      · by_cases hfe : fs = en
        · have HE2 : Hid (cutF a lo hi (k + 1) = (k, k + 1)) := Lib.hid (by rw [HF.out, hs, if_pos rfl, if_pos hfe])
          have hbe : ((fs : Int) == (en : Int)) = true := by simp; omega
          clear hs hfe
          go_wp2
          go_roundw
          case rel => exact ⟨k + 1, by omega, by go_num, by rw [HE2.out], by rw [HE2.out]; go_num, by first | rfl | trivial⟩
          case measure => simp [intOf]; omega
        · have HE2 : Hid (cutF a lo hi (k + 1) = (fs, k + 1)) := Lib.hid (by rw [HF.out, hs, if_pos rfl, if_neg hfe])
          have hbe : ((fs : Int) == (en : Int)) = false := by simp; omega
          clear hs hfe
          go_wp2
          go_roundw
          case rel => exact ⟨k + 1, by omega, by go_num, by rw [HE2.out], by rw [HE2.out]; go_num, by first | rfl | trivial⟩
          case measure => simp [intOf]; omega
    · have hkk : k = n := by omega
      rw [hkk] at hi1 hi2 ⊢
      clear hkk hlt hk
      obtain ⟨fs, hfs⟩ : ∃ x, x = (cutF a lo hi n).1 := ⟨_, rfl⟩
      obtain ⟨en, hen⟩ : ∃ x, x = (cutF a lo hi n).2 := ⟨_, rfl⟩
      rw [← hfs, ← hen] at hi1
      rw [← hen] at hi2
      rw [← hfs, ← hen]
      have HFS := Lib.hid hfs
      have HEN := Lib.hid hen
      clear hfs hen
      have p0 := (LR.out.2 0 _ rfl).1
      have q0 := (LR.out.2 0 _ rfl).2
      have p1 := (LR.out.2 1 _ rfl).1
      have q1 := (LR.out.2 1 _ rfl).2
      have p2 := (LR.out.2 2 _ rfl).1
      have q2 := (LR.out.2 2 _ rfl).2
      by_cases hfe : en = fs
      · subst hfe
        go_wp2
        go_region
        all_goals
          clear p0 p1 p2 q0 q1 q2 k0 k1 k2
          have c0 : ∀ u0 u1 u2 : Value, ((((w1.setCell ⟨w.heap.size + 1, 0, none⟩ u0).setCell ⟨w.heap.size + 1, 1, none⟩ u1).setCell ⟨w.heap.size + 1, 2, none⟩ u2).drew).cell? ⟨w.heap.size + 1, 0, none⟩ = some u0 := fun u0 u1 u2 => (((((LR.out.set (i := 0) (by simp) u0).set (i := 1) (by simp) u1).set (i := 2) (by simp) u2).draws 1).2 0 _ rfl).1
          have c1 : ∀ u0 u1 u2 : Value, ((((w1.setCell ⟨w.heap.size + 1, 0, none⟩ u0).setCell ⟨w.heap.size + 1, 1, none⟩ u1).setCell ⟨w.heap.size + 1, 2, none⟩ u2).drew).cell? ⟨w.heap.size + 1, 1, none⟩ = some u1 := fun u0 u1 u2 => (((((LR.out.set (i := 0) (by simp) u0).set (i := 1) (by simp) u1).set (i := 2) (by simp) u2).draws 1).2 1 _ rfl).1
          have c2 : ∀ u0 u1 u2 : Value, ((((w1.setCell ⟨w.heap.size + 1, 0, none⟩ u0).setCell ⟨w.heap.size + 1, 1, none⟩ u1).setCell ⟨w.heap.size + 1, 2, none⟩ u2).drew).cell? ⟨w.heap.size + 1, 2, none⟩ = some u2 := fun u0 u1 u2 => (((((LR.out.set (i := 0) (by simp) u0).set (i := 1) (by simp) u1).set (i := 2) (by simp) u2).draws 1).2 2 _ rfl).1
          have hb : ∀ u0 u1 u2 : Value, Below w.heap.size w (((w1.setCell ⟨w.heap.size + 1, 0, none⟩ u0).setCell ⟨w.heap.size + 1, 1, none⟩ u1).setCell ⟨w.heap.size + 1, 2, none⟩ u2).drew := fun u0 u1 u2 => (((B1.out.setCell (p := ⟨w.heap.size + 1, 0, none⟩) (by show w.heap.size ≤ w.heap.size + 1; omega) u0).setCell (p := ⟨w.heap.size + 1, 1, none⟩) (by show w.heap.size ≤ w.heap.size + 1; omega) u1).setCell (p := ⟨w.heap.size + 1, 2, none⟩) (by show w.heap.size ≤ w.heap.size + 1; omega) u2).drew
          go_wp2
          refine bodyPost_ret (v := .agg #[.slice (ptrP ba oa en en) (en - en) (en - en), .slice (ptrP bl ol en en) (en - en) (en - en), .slice (ptrP bd od en en) (en - en) (en - en)]) ?_ rfl ?_
          · unfold ptrP
            simp [results, Try.results86, go_sem, c0, c1, c2]
          · exact ⟨by rw [← HFS.out, ← HEN.out], hb _ _ _⟩
      · skip
        go_wp2
        go_region
        all_goals
          clear p0 p1 p2 q0 q1 q2 k0 k1 k2
          have c0 : ∀ u0 u1 u2 : Value, ((((w1.setCell ⟨w.heap.size + 1, 0, none⟩ u0).setCell ⟨w.heap.size + 1, 1, none⟩ u1).setCell ⟨w.heap.size + 1, 2, none⟩ u2).drew).cell? ⟨w.heap.size + 1, 0, none⟩ = some u0 := fun u0 u1 u2 => (((((LR.out.set (i := 0) (by simp) u0).set (i := 1) (by simp) u1).set (i := 2) (by simp) u2).draws 1).2 0 _ rfl).1
          have c1 : ∀ u0 u1 u2 : Value, ((((w1.setCell ⟨w.heap.size + 1, 0, none⟩ u0).setCell ⟨w.heap.size + 1, 1, none⟩ u1).setCell ⟨w.heap.size + 1, 2, none⟩ u2).drew).cell? ⟨w.heap.size + 1, 1, none⟩ = some u1 := fun u0 u1 u2 => (((((LR.out.set (i := 0) (by simp) u0).set (i := 1) (by simp) u1).set (i := 2) (by simp) u2).draws 1).2 1 _ rfl).1
          have c2 : ∀ u0 u1 u2 : Value, ((((w1.setCell ⟨w.heap.size + 1, 0, none⟩ u0).setCell ⟨w.heap.size + 1, 1, none⟩ u1).setCell ⟨w.heap.size + 1, 2, none⟩ u2).drew).cell? ⟨w.heap.size + 1, 2, none⟩ = some u2 := fun u0 u1 u2 => (((((LR.out.set (i := 0) (by simp) u0).set (i := 1) (by simp) u1).set (i := 2) (by simp) u2).draws 1).2 2 _ rfl).1
          have hb : ∀ u0 u1 u2 : Value, Below w.heap.size w (((w1.setCell ⟨w.heap.size + 1, 0, none⟩ u0).setCell ⟨w.heap.size + 1, 1, none⟩ u1).setCell ⟨w.heap.size + 1, 2, none⟩ u2).drew := fun u0 u1 u2 => (((B1.out.setCell (p := ⟨w.heap.size + 1, 0, none⟩) (by show w.heap.size ≤ w.heap.size + 1; omega) u0).setCell (p := ⟨w.heap.size + 1, 1, none⟩) (by show w.heap.size ≤ w.heap.size + 1; omega) u1).setCell (p := ⟨w.heap.size + 1, 2, none⟩) (by show w.heap.size ≤ w.heap.size + 1; omega) u2).drew
          go_wp2
          refine bodyPost_ret (v := .agg #[.slice (ptrP ba oa fs en) (en - fs) (en - fs), .slice (ptrP bl ol fs en) (en - fs) (en - fs), .slice (ptrP bd od fs en) (en - fs) (en - fs)]) ?_ rfl ?_
          · unfold ptrP
            simp [results, Try.results86, go_sem, c0, c1, c2, hfe]
          · exact ⟨by rw [← HFS.out, ← HEN.out], hb _ _ _⟩
end Go.Proofs.Ytplofbkollhjpaa
