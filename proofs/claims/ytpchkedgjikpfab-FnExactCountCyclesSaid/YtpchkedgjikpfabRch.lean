/- The ranges of cycles. No statement is proved here. -/
import Derived.Test.YtpchkedgjikpfabAre
import Derived.Test.YtpchkedgjikpfabInv4
namespace Go.Proofs.Ytpchkedgjikpfab
open Go Go.RowKit
theorem BlkL.three {w : World} {B : Nat} {v0 v1 v2 : Value} (h : BlkL w B [v0, v1, v2]) : w.cell? ⟨B, 0, none⟩ = some v0 ∧ w.cell? ⟨B, 1, none⟩ = some v1 ∧ w.cell? ⟨B, 2, none⟩ = some v2 :=
  ⟨(h.2 0 _ rfl).1, (h.2 1 _ rfl).1, (h.2 2 _ rfl).1⟩
theorem BlkL.one {w : World} {B : Nat} {v0 : Value} (h : BlkL w B [v0]) : w.cell? ⟨B, 0, none⟩ = some v0 := (h.2 0 _ rfl).1
/-- the range of a cycle -/
def rchV (x y : Nat) : Nat := fop .sub .f32 (canon .f32 y) (canon .f32 x)
theorem FlC.same {w : World} {b off : Nat} {xs : List (Nat × Nat × Bool)} (h : FlC w (some ⟨b, off, none⟩) xs) {k : Nat} (hk : k < xs.length) :
    w.cell? ⟨b, off + k * 3, none⟩ = some (.float .f32 (loN xs k)) ∧ w.cell? ⟨b, off + k * 3 + 1, none⟩ = some (.float .f32 (hiN xs k)) ∧ w.cell? ⟨b, off + k * 3 + 2, none⟩ = some (.bool (whB xs k)) := by
  obtain ⟨b', off', e, -, h1⟩ := h.at_ hk
  simp only [Option.some.injEq, Addr.mk.injEq, and_true] at e
  obtain ⟨rfl, rfl⟩ := e
  exact h1
def rchAt (xs : List (Nat × Nat × Bool)) (k : Nat) : Nat := rchV (loN xs k) (hiN xs k)
theorem i_reach (x y : Nat) (z : Bool) (w : World) :
    Calls Try.prog 66 #[.agg #[.float .f32 x, .float .f32 y, .bool z]] w fun e w' => ∃ r, e = .returned (.float .f32 r) ∧ canon .f32 r = rchV x y ∧ Below w.heap.size w w' := by
  have HB : ∀ o1, Hid (Below w.heap.size w (w.alloc o1)) := fun _ => Lib.hid ((Below.refl _ _).alloc (Nat.le_refl _) _)
  go_enter Try.func66, Try.ntmps66
  go_wp2
  go_ret
  exact ⟨_, rfl, canonF rfl rfl, by repeat (first | exact (HB _).out | refine below_draws ?_ _)⟩
set_option maxHeartbeats 8000000 in
set_option maxRecDepth 100000 in
theorem i_reachesFurther (x y : Nat) (z : Bool) (x' y' : Nat) (z' : Bool) (w : World) :
    Calls Try.prog 70 #[.agg #[.float .f32 x, .float .f32 y, .bool z], .agg #[.float .f32 x', .float .f32 y', .bool z']] w fun e w' => e = .returned (.bool (gtr32 (rchV x y) (rchV x' y'))) ∧ Below w.heap.size w w' := by
  obtain ⟨w0, hw0⟩ : ∃ w0, w0 = ((w.alloc (.cells #[.float .f32 x, .float .f32 y, .bool z] 70)).alloc (.cells #[.float .f32 x', .float .f32 y', .bool z'] 70)) := ⟨_, rfl⟩
  have B0 : Hid (Below w.heap.size w w0) := Lib.hid (by rw [hw0]; exact ((Below.refl _ _).alloc (Nat.le_refl _) _).alloc (by simp) _)
  have K0 : Hid (BlkL w0 w.heap.size [.float .f32 x, .float .f32 y, .bool z]) := Lib.hid (by rw [hw0]; exact (blkL_at w #[.float .f32 x, .float .f32 y, .bool z] _ rfl).alloc _)
  have K1 : Hid (BlkL w0 (w.heap.size + 1) [.float .f32 x', .float .f32 y', .bool z']) := Lib.hid (by rw [hw0]; exact blkL_at (w.alloc _) #[.float .f32 x', .float .f32 y', .bool z'] _ (by simp))
  go_enter Try.func70, Try.ntmps70
  go_wp2_with fail
  rw [← hw0]
  clear hw0
  refine wp_region_inv4 (fun iq wv v => match iq with
    | 0 => v = .agg #[.float .f32 x, .float .f32 y, .bool z]
    | 1 => ∃ r, v = .float .f32 r ∧ canon .f32 r = rchV x y
    | 2 => v = .agg #[.float .f32 x', .float .f32 y', .bool z']
    | 3 => ∃ r, v = .float .f32 r ∧ canon .f32 r = rchV x' y'
    | 4 => v = .bool (gtr32 (rchV x y) (rchV x' y'))
    | 5 => v = .bool (gtr32 (rchV x y) (rchV x' y'))
    | _ => False) (fun _ ww => Below w0.heap.size w0 ww) (fun w w' => Below w.heap.size w w') ?hmono (by kernel_rfl) (by kernel_rfl) ((Below.refl _ _).drew) ?hop ?hend
  case hmono =>
    intro i wa wb v hR hV
    rcases i with _ | _ | _ | _ | _ | _ | i
    · exact hV
    · exact hV
    · exact hV
    · exact hV
    · exact hV
    · exact hV
    · exact hV
  case hop =>
    intro q o hq listed act w3 hI hnot hcl hall
    have hB := hI.cls
    obtain ⟨a0, a1, a2⟩ := (K0.out.below hB).three
    obtain ⟨c0, c1, c2⟩ := (K1.out.below hB).three
    rcases q with _ | _ | _ | _ | _ | _ | q
    · simp at hq; subst hq
      have g2 : act.tmps[2]?.getD undef = .pointer (some ⟨w.heap.size, 0, none⟩) := hI.kept 2 (by kernel_rfl)
      clear hI hall hnot hcl
      refine .inl ⟨wanted_none rfl, ?_⟩
      unfold Oper.wp
      go_simp
      all_goals first | exact ⟨_, rfl, Below.refl _ _, rfl, hB⟩ | exact ⟨Below.refl _ _, hB⟩ | exact Below.refl _ _
    · simp at hq; subst hq
      have g5 : act.tmps[5]?.getD undef = .agg #[.float .f32 x, .float .f32 y, .bool z] := hI.has 0 5 rfl (hall ⟨0, .data⟩ (by simp) rfl)
      clear hI hall hnot hcl
      refine .inl ⟨wanted_none rfl, ?_⟩
      unfold Oper.wp
      go_simp
      refine (i_reach _ _ _ _).mono ?_
      rintro e w4 ⟨r4, rfl, h4, b4⟩
      exact ⟨_, rfl, b4, ⟨_, rfl, h4⟩, below_of hB hB.size b4⟩
    · simp at hq; subst hq
      have g3 : act.tmps[3]?.getD undef = .pointer (some ⟨(w.heap.size + 1), 0, none⟩) := hI.kept 3 (by kernel_rfl)
      clear hI hall hnot hcl
      refine .inl ⟨wanted_none rfl, ?_⟩
      unfold Oper.wp
      go_simp
      all_goals first | exact ⟨_, rfl, Below.refl _ _, rfl, hB⟩ | exact ⟨Below.refl _ _, hB⟩ | exact Below.refl _ _
    · simp at hq; subst hq
      have g7 : act.tmps[7]?.getD undef = .agg #[.float .f32 x', .float .f32 y', .bool z'] := hI.has 2 7 rfl (hall ⟨2, .data⟩ (by simp) rfl)
      clear hI hall hnot hcl
      refine .inl ⟨wanted_none rfl, ?_⟩
      unfold Oper.wp
      go_simp
      refine (i_reach _ _ _ _).mono ?_
      rintro e w4 ⟨r4, rfl, h4, b4⟩
      exact ⟨_, rfl, b4, ⟨_, rfl, h4⟩, below_of hB hB.size b4⟩
    · simp at hq; subst hq
      obtain ⟨r1, g6, h1a⟩ := hI.has 1 6 rfl (hall ⟨1, .data⟩ (by simp) rfl)
      obtain ⟨r3, g8, h3a⟩ := hI.has 3 8 rfl (hall ⟨3, .data⟩ (by simp) rfl)
      clear hI hall hnot hcl
      refine .inl ⟨wanted_none rfl, ?_⟩
      unfold Oper.wp
      go_simp
      exact ⟨by unfold gtr32; rw [← h1a, ← h3a, order_canon], Below.refl _ _⟩
    · simp at hq; subst hq
      have g9 : act.tmps[9]?.getD undef = .bool (gtr32 (rchV x y) (rchV x' y')) := hI.has 4 9 rfl (hall ⟨4, .data⟩ (by simp) rfl)
      clear hI hall hnot hcl
      refine .inl ⟨wanted_none rfl, ?_⟩
      unfold Oper.wp
      go_simp
      all_goals first | exact ⟨_, rfl, Below.refl _ _, rfl, hB⟩ | exact ⟨Below.refl _ _, hB⟩ | exact Below.refl _ _
    · simp at hq
  case hend =>
    intro listed act w3 hI hall
    have hB := hI.cls
    obtain ⟨a0, a1, a2⟩ := (K0.out.below hB).three
    obtain ⟨c0, c1, c2⟩ := (K1.out.below hB).three
    have g4 : act.tmps[4]?.getD undef = .bool (gtr32 (rchV x y) (rchV x' y')) := hI.has 5 4 rfl (hall 5 (by decide))
    have hd := hI.defers
    clear hI hall
    go_wp2
    refine bodyPost_ret (v := .bool (gtr32 (rchV x y) (rchV x' y'))) (by simp [results, Try.results70, g4, go_sem]) (by first | rfl | exact hd) ⟨rfl, below_of B0.out B0.out.size hB⟩
end Go.Proofs.Ytpchkedgjikpfab
