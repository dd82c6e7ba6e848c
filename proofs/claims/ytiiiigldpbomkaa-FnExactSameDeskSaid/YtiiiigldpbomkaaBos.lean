/- Stations compared: the program's side. No statement is proved here. -/
import Derived.Test.YtiiiigldpbomkaaRot
import Derived.Test.YtiiiigldpbomkaaSame
import Derived.Test.YtiiiigldpbomkaaStC
import Derived.Test.YtiiiigldpbomkaaInv4
import Derived.Test.YtiiiigldpbomkaaList
import Derived.Test.YtiiiigldpbomkaaApp
namespace Go.Proofs.Ytiiiigldpbomkaa
open Go Go.RowKit
def smS (x y z x' y' z' : Nat) : Bool := decide (canon .f32 x = canon .f32 x') && (decide (canon .f32 y = canon .f32 y') && decide (canon .f32 z = canon .f32 z'))
theorem BlkL.three' {w : World} {B : Nat} {v0 v1 v2 : Value} (h : BlkL w B [v0, v1, v2]) : w.cell? ⟨B, 0, none⟩ = some v0 ∧ w.cell? ⟨B, 1, none⟩ = some v1 ∧ w.cell? ⟨B, 2, none⟩ = some v2 := ⟨(h.2 0 _ rfl).1, (h.2 1 _ rfl).1, (h.2 2 _ rfl).1⟩
set_option maxHeartbeats 8000000 in
theorem i_bitsOfStation (x y z : Nat) (w : World) (hx : canon .f32 x < 4294967296) (hy : canon .f32 y < 4294967296) (hz : canon .f32 z < 4294967296) :
    Calls Try.prog 211 #[.agg #[.float .f32 x, .float .f32 y, .float .f32 z]] w fun e w' => e = .returned (.agg #[.int .i64 (canon .f32 x), .int .i64 (canon .f32 y), .int .i64 (canon .f32 z)]) ∧ Below w.heap.size w w' := by
  have Wx := Lib.hid hx
  have Wy := Lib.hid hy
  have Wz := Lib.hid hz
  clear hx hy hz
  obtain ⟨w1, hw1⟩ : ∃ w1, w1 = (w.alloc (.cells #[.float .f32 x, .float .f32 y, .float .f32 z] 47)).alloc (.cells #[.int .i64 0, .int .i64 0, .int .i64 0] 214) := ⟨_, rfl⟩
  have HB1 : Hid (Below w.heap.size w w1) := Lib.hid (by rw [hw1]; exact ((Below.refl _ _).alloc (Nat.le_refl _) _).alloc (by simp) _)
  have K0 : Hid (BlkL w1 w.heap.size [.float .f32 x, .float .f32 y, .float .f32 z]) := Lib.hid (by rw [hw1]; exact (blkL_at w #[.float .f32 x, .float .f32 y, .float .f32 z] _ rfl).alloc _)
  have K1 : Hid (BlkL w1 (w.heap.size + 1) [.int .i64 0, .int .i64 0, .int .i64 0]) := Lib.hid (by rw [hw1]; exact blkL_at (w.alloc _) #[.int .i64 0, .int .i64 0, .int .i64 0] _ (by simp))
  have hFin : ∀ a b : World, Below a.heap.size a b → BlkL a (w.heap.size + 1) [.int .i64 (canon .f32 x), .int .i64 (canon .f32 y), .int .i64 (canon .f32 z)] → BlkL b (w.heap.size + 1) [.int .i64 (canon .f32 x), .int .i64 (canon .f32 y), .int .i64 (canon .f32 z)] := fun _ _ hb h => h.below hb
  go_enter Try.func211, Try.ntmps211
  go_wp2_with fail
  rw [← hw1]
  clear hw1
  refine wp_region_inv4 (fun iq wv v => match iq with
    | 0 => v = .pointer (some ⟨w.heap.size, 0, none⟩)
    | 1 => v = .float .f32 x
    | 2 => v = .int .i64 (canon .f32 x)
    | 3 => v = .pointer (some ⟨w.heap.size, 1, none⟩)
    | 4 => v = .float .f32 y
    | 5 => v = .int .i64 (canon .f32 y)
    | 6 => v = .pointer (some ⟨w.heap.size, 2, none⟩)
    | 7 => v = .float .f32 z
    | 8 => v = .int .i64 (canon .f32 z)
    | 9 => v = .agg #[.int .i64 (canon .f32 x), .int .i64 (canon .f32 y), .int .i64 (canon .f32 z)]
    | 10 => True
    | _ => False) (StC w1 (w.heap.size + 1) 3 10 (fun W => BlkL W (w.heap.size + 1) [.int .i64 (canon .f32 x), .int .i64 (canon .f32 y), .int .i64 (canon .f32 z)])) (fun wa wb => Turn wa wb (fun b => b = (w.heap.size + 1))) ?hmono (by kernel_rfl) (by kernel_rfl) (StC.start K1.out rfl) ?hop ?hend
  case hmono =>
    intro i wa wb v hR hV
    rcases i with _ | _ | _ | _ | _ | _ | _ | _ | _ | _ | _ | i
    · exact hV
    · exact hV
    · exact hV
    · exact hV
    · exact hV
    · exact hV
    · exact hV
    · exact hV
    · exact hV
    · exact hV
    · exact hV
    · exact hV
  case hop =>
    intro q o hq listed act w3 hI hnot hcl hall
    have hC := hI.cls
    have hlen : listed.size = 11 := hI.len
    have HK0 : BlkL w3 w.heap.size [.float .f32 x, .float .f32 y, .float .f32 z] := K0.out.turnS hC.1 (by omega)
    obtain ⟨k0, k1, k2⟩ := HK0.three'
    rcases q with _ | _ | _ | _ | _ | _ | _ | _ | _ | _ | _ | q
    · simp at hq; subst hq
      have g1 : act.tmps[1]?.getD undef = .pointer (some ⟨w.heap.size, 0, none⟩) := hI.kept 1 (by kernel_rfl)
      clear hI hall hnot hcl
      refine .inl ⟨wanted_none rfl, ?_⟩
      unfold Oper.wp
      go_simp
      all_goals exact ⟨_, rfl, Turn.refl _ _, rfl, StC.step (k := 0) hC (Below.refl _ _) hFin (by decide) (by rw [hlen]; decide)⟩
    · simp at hq; subst hq
      have g3 : act.tmps[3]?.getD undef = .pointer (some ⟨w.heap.size, 0, none⟩) := hI.has 0 3 rfl (hall ⟨0, .data⟩ (by simp) rfl)
      clear hI hall hnot hcl
      refine .inl ⟨wanted_none rfl, ?_⟩
      unfold Oper.wp
      go_simp
      all_goals exact ⟨_, rfl, Turn.refl _ _, rfl, StC.step (k := 1) hC (Below.refl _ _) hFin (by decide) (by rw [hlen]; decide)⟩
    · simp at hq; subst hq
      have g4 : act.tmps[4]?.getD undef = .float .f32 x := hI.has 1 4 rfl (hall ⟨1, .data⟩ (by simp) rfl)
      clear hI hall hnot hcl
      refine .inl ⟨wanted_none rfl, ?_⟩
      unfold Oper.wp
      go_simp
      refine (bitsOf_any _ _ Wx.out).mono ?_
      rintro e w4 ⟨n4, rfl, rfl⟩
      exact ⟨_, rfl, Turn.draws _ _ _, rfl, StC.step (k := 2) hC (below_draws (Below.refl _ _) _) hFin (by decide) (by rw [hlen]; decide)⟩
    · simp at hq; subst hq
      have g1 : act.tmps[1]?.getD undef = .pointer (some ⟨w.heap.size, 0, none⟩) := hI.kept 1 (by kernel_rfl)
      clear hI hall hnot hcl
      refine .inl ⟨wanted_none rfl, ?_⟩
      unfold Oper.wp
      go_simp
      all_goals exact ⟨_, rfl, Turn.refl _ _, rfl, StC.step (k := 3) hC (Below.refl _ _) hFin (by decide) (by rw [hlen]; decide)⟩
    · simp at hq; subst hq
      have g6 : act.tmps[6]?.getD undef = .pointer (some ⟨w.heap.size, 1, none⟩) := hI.has 3 6 rfl (hall ⟨3, .data⟩ (by simp) rfl)
      clear hI hall hnot hcl
      refine .inl ⟨wanted_none rfl, ?_⟩
      unfold Oper.wp
      go_simp
      all_goals exact ⟨_, rfl, Turn.refl _ _, rfl, StC.step (k := 4) hC (Below.refl _ _) hFin (by decide) (by rw [hlen]; decide)⟩
    · simp at hq; subst hq
      have g7 : act.tmps[7]?.getD undef = .float .f32 y := hI.has 4 7 rfl (hall ⟨4, .data⟩ (by simp) rfl)
      clear hI hall hnot hcl
      refine .inl ⟨wanted_none rfl, ?_⟩
      unfold Oper.wp
      go_simp
      refine (bitsOf_any _ _ Wy.out).mono ?_
      rintro e w4 ⟨n4, rfl, rfl⟩
      exact ⟨_, rfl, Turn.draws _ _ _, rfl, StC.step (k := 5) hC (below_draws (Below.refl _ _) _) hFin (by decide) (by rw [hlen]; decide)⟩
    · simp at hq; subst hq
      have g1 : act.tmps[1]?.getD undef = .pointer (some ⟨w.heap.size, 0, none⟩) := hI.kept 1 (by kernel_rfl)
      clear hI hall hnot hcl
      refine .inl ⟨wanted_none rfl, ?_⟩
      unfold Oper.wp
      go_simp
      all_goals exact ⟨_, rfl, Turn.refl _ _, rfl, StC.step (k := 6) hC (Below.refl _ _) hFin (by decide) (by rw [hlen]; decide)⟩
    · simp at hq; subst hq
      have g9 : act.tmps[9]?.getD undef = .pointer (some ⟨w.heap.size, 2, none⟩) := hI.has 6 9 rfl (hall ⟨6, .data⟩ (by simp) rfl)
      clear hI hall hnot hcl
      refine .inl ⟨wanted_none rfl, ?_⟩
      unfold Oper.wp
      go_simp
      all_goals exact ⟨_, rfl, Turn.refl _ _, rfl, StC.step (k := 7) hC (Below.refl _ _) hFin (by decide) (by rw [hlen]; decide)⟩
    · simp at hq; subst hq
      have g10 : act.tmps[10]?.getD undef = .float .f32 z := hI.has 7 10 rfl (hall ⟨7, .data⟩ (by simp) rfl)
      clear hI hall hnot hcl
      refine .inl ⟨wanted_none rfl, ?_⟩
      unfold Oper.wp
      go_simp
      refine (bitsOf_any _ _ Wz.out).mono ?_
      rintro e w4 ⟨n4, rfl, rfl⟩
      exact ⟨_, rfl, Turn.draws _ _ _, rfl, StC.step (k := 8) hC (below_draws (Below.refl _ _) _) hFin (by decide) (by rw [hlen]; decide)⟩
    · simp at hq; subst hq
      have g5 : act.tmps[5]?.getD undef = .int .i64 (canon .f32 x) := hI.has 2 5 rfl (hall ⟨2, .data⟩ (by simp) rfl)
      have g8 : act.tmps[8]?.getD undef = .int .i64 (canon .f32 y) := hI.has 5 8 rfl (hall ⟨5, .data⟩ (by simp) rfl)
      have g11 : act.tmps[11]?.getD undef = .int .i64 (canon .f32 z) := hI.has 8 11 rfl (hall ⟨8, .data⟩ (by simp) rfl)
      clear hI hall hnot hcl
      refine .inl ⟨wanted_none rfl, ?_⟩
      unfold Oper.wp
      go_simp
      all_goals exact ⟨_, rfl, Turn.refl _ _, rfl, StC.step (k := 9) hC (Below.refl _ _) hFin (by decide) (by rw [hlen]; decide)⟩
    · simp at hq; subst hq
      have g2 : act.tmps[2]?.getD undef = .pointer (some ⟨(w.heap.size + 1), 0, none⟩) := hI.kept 2 (by kernel_rfl)
      have g12 : act.tmps[12]?.getD undef = .agg #[.int .i64 (canon .f32 x), .int .i64 (canon .f32 y), .int .i64 (canon .f32 z)] := hI.has 9 12 rfl (hall ⟨9, .data⟩ (by simp) rfl)
      clear hI hall hnot hcl
      refine .inl ⟨wanted_none rfl, ?_⟩
      unfold Oper.wp
      go_simp
      obtain ⟨vs, hvs, hvl⟩ := hC.2.1
      match vs, hvs, hvl with
      | [a0, a1, a2], hvs, _ =>
      have p0 := (hvs.2 0 _ rfl).1
      have q0 := (hvs.2 0 _ rfl).2
      have p1 := (hvs.2 1 _ rfl).1
      have q1 := (hvs.2 1 _ rfl).2
      have p2 := (hvs.2 2 _ rfl).1
      have q2 := (hvs.2 2 _ rfl).2
      go_simp
      have hf := ((hvs.set (i := 0) (by simp) (.int .i64 (canon .f32 x))).set (i := 1) (by simp) (.int .i64 (canon .f32 y))).set (i := 2) (by simp) (.int .i64 (canon .f32 z))
      have ht := ((Turn.set w3 (B := w.heap.size + 1) ⟨w.heap.size + 1, 0, none⟩ rfl (.int .i64 (canon .f32 x))).trans (Turn.set _ (B := w.heap.size + 1) ⟨w.heap.size + 1, 1, none⟩ rfl (.int .i64 (canon .f32 y)))).trans (Turn.set _ (B := w.heap.size + 1) ⟨w.heap.size + 1, 2, none⟩ rfl (.int .i64 (canon .f32 z)))
      first | exact ⟨ht, StC.store hC ht hf rfl hf⟩ | exact ⟨ht, trivial, StC.store hC ht hf rfl hf⟩
    · simp at hq
  case hend =>
    intro listed act w3 hI hall
    have hC := hI.cls
    have hlen : listed.size = 11 := hI.len
    have HK0 : BlkL w3 w.heap.size [.float .f32 x, .float .f32 y, .float .f32 z] := K0.out.turnS hC.1 (by omega)
    obtain ⟨k0, k1, k2⟩ := HK0.three'
    have hF := hI.cls.2.2 (hall 10 (by decide))
    have ht := hI.cls.1
    have g2 : act.tmps[2]?.getD undef = .pointer (some ⟨(w.heap.size + 1), 0, none⟩) := hI.kept 2 (by kernel_rfl)
    have hd := hI.defers
    clear hI hall hFin
    have c0 := (hF.2 0 _ rfl).1
    have c1 := (hF.2 1 _ rfl).1
    have c2 := (hF.2 2 _ rfl).1
    go_wp2
    refine bodyPost_ret (v := .agg #[.int .i64 (canon .f32 x), .int .i64 (canon .f32 y), .int .i64 (canon .f32 z)]) (by simp [results, Try.results211, g2, c0, c1, c2, go_sem]) (by first | rfl | exact hd) ⟨rfl, ?_⟩
    exact ht.2.2.2 w HB1.out (fun b hb => by rw [hb]; omega)
theorem eq_i64S (a b : Nat) : ((a : Int) == (b : Int)) = decide (a = b) := by
  by_cases h : a = b
  · subst h; simp
  · rw [decide_eq_false h, beq_eq_false_iff_ne]; omega
theorem run_eqBitsS (a b c a' b' c' : Int) (w : World) : (binOp .eql 214 (.agg #[.int .i64 a, .int .i64 b, .int .i64 c]) (.agg #[.int .i64 a', .int .i64 b', .int .i64 c'])).run Try.prog w = .ok (.bool ((a == a') && ((b == b') && (c == c')))) w := by
  have u3 := Try.underlying2
  have hS : Try.prog.underlying 214 = some (.struct (Try.prog.fieldsOf 214)) := by kernel_rfl
  have hp : Try.prog.stoodInHeld 214 = false := by kernel_rfl
  rw [run_eql_struct, show (10000 : Nat) = 9999 + 1 from rfl, run_equalIn_agg w 9999 214 _ _ hS hp]
  simp only [Program.fieldsOf, Try.underlying214]
  go_simp
  by_cases h1 : a = a' <;> by_cases h2 : b = b' <;> by_cases h3 : c = c' <;> simp [h1, h2, h3]
set_option maxHeartbeats 8000000 in
set_option maxRecDepth 100000 in
theorem i_sameStation (x y z x' y' z' : Nat) (w : World) (hx : canon .f32 x < 4294967296) (hy : canon .f32 y < 4294967296) (hz : canon .f32 z < 4294967296) (hx' : canon .f32 x' < 4294967296) (hy' : canon .f32 y' < 4294967296) (hz' : canon .f32 z' < 4294967296) :
    Calls Try.prog 183 #[.agg #[.float .f32 x, .float .f32 y, .float .f32 z], .agg #[.float .f32 x', .float .f32 y', .float .f32 z']] w fun e w' => e = .returned (.bool (smS x y z x' y' z')) ∧ Below w.heap.size w w' := by
  have QB0 : ∀ W, Hid (Calls Try.prog 211 #[.agg #[.float .f32 x, .float .f32 y, .float .f32 z]] W fun e w' => e = .returned (.agg #[.int .i64 (canon .f32 x), .int .i64 (canon .f32 y), .int .i64 (canon .f32 z)]) ∧ Below W.heap.size W w') := fun W => Lib.hid (i_bitsOfStation x y z W hx hy hz)
  have QB1 : ∀ W, Hid (Calls Try.prog 211 #[.agg #[.float .f32 x', .float .f32 y', .float .f32 z']] W fun e w' => e = .returned (.agg #[.int .i64 (canon .f32 x'), .int .i64 (canon .f32 y'), .int .i64 (canon .f32 z')]) ∧ Below W.heap.size W w') := fun W => Lib.hid (i_bitsOfStation x' y' z' W hx' hy' hz')
  obtain ⟨w1, hw1⟩ : ∃ w1, w1 = (w.alloc (.cells #[.float .f32 x, .float .f32 y, .float .f32 z] 47)).alloc (.cells #[.float .f32 x', .float .f32 y', .float .f32 z'] 47) := ⟨_, rfl⟩
  have B1 : Hid (Below w.heap.size w w1) := Lib.hid (by rw [hw1]; exact ((Below.refl _ _).alloc (Nat.le_refl _) _).alloc (by simp) _)
  have K1 := Lib.hid (show BlkL w1 w.heap.size [.float .f32 x, .float .f32 y, .float .f32 z] by rw [hw1]; exact (blkL_at w #[.float .f32 x, .float .f32 y, .float .f32 z] _ rfl).alloc _)
  have K2 := Lib.hid (show BlkL w1 (w.heap.size + 1) [.float .f32 x', .float .f32 y', .float .f32 z'] by rw [hw1]; exact blkL_at (w.alloc _) #[.float .f32 x', .float .f32 y', .float .f32 z'] _ (by simp))
  have HU : Hid (((canon .f32 x : Int) == (canon .f32 x' : Int) && ((canon .f32 y : Int) == (canon .f32 y' : Int) && (canon .f32 z : Int) == (canon .f32 z' : Int))) = smS x y z x' y' z') := Lib.hid (by simp only [eq_i64S]; rfl)
  have hrun := fun W => run_eqBitsS (canon .f32 x : Int) (canon .f32 y : Int) (canon .f32 z : Int) (canon .f32 x' : Int) (canon .f32 y' : Int) (canon .f32 z' : Int) W
  clear hx hy hz hx' hy' hz'
  generalize smS x y z x' y' z' = ub at HU ⊢
  go_enter Try.func183, Try.ntmps183
  go_wp2_with fail
  rw [← hw1]
  clear hw1
  refine wp_region_inv4 (fun iq wv v => match iq with
    | 0 => v = .agg #[.float .f32 x, .float .f32 y, .float .f32 z]
    | 1 => v = .agg #[.int .i64 (canon .f32 x), .int .i64 (canon .f32 y), .int .i64 (canon .f32 z)]
    | 2 => v = .agg #[.float .f32 x', .float .f32 y', .float .f32 z']
    | 3 => v = .agg #[.int .i64 (canon .f32 x'), .int .i64 (canon .f32 y'), .int .i64 (canon .f32 z')]
    | 4 => v = .bool ub
    | 5 => v = .bool ub
    | _ => False) (fun _ ww => Below w1.heap.size w1 ww) (fun w w' => Below w.heap.size w w') ?hmono (by kernel_rfl) (by kernel_rfl) ((Below.refl _ _).drew) ?hop ?hend
  case hmono =>
    intro i wa wb v hR hV
    rcases i with _ | _ | _ | _ | _ | _ | i
    · exact hV
    · exact hV
    · exact hV
    · exact hV
    · exact hV
    · exact hV
    · exact hV
  case hop =>
    intro q o hq listed act w3 hI hnot hcl hall
    have hB := hI.cls
    obtain ⟨k0, k1, k2⟩ := (K1.out.below hB).three'
    obtain ⟨l0, l1, l2⟩ := (K2.out.below hB).three'
    rcases q with _ | _ | _ | _ | _ | _ | q
    · simp at hq; subst hq
      have g2 : act.tmps[2]?.getD undef = .pointer (some ⟨w.heap.size, 0, none⟩) := hI.kept 2 (by kernel_rfl)
      clear hI hall hnot hcl
      refine .inl ⟨wanted_none rfl, ?_⟩
      unfold Oper.wp
      go_simp
      all_goals first | first | exact ⟨_, rfl, Below.refl _ _, rfl⟩ | exact ⟨_, rfl, Below.refl _ _, rfl, hB⟩ | exact ⟨Below.refl _ _, hB⟩ | exact Below.refl _ _
    · simp at hq; subst hq
      have g5 : act.tmps[5]?.getD undef = .agg #[.float .f32 x, .float .f32 y, .float .f32 z] := hI.has 0 5 rfl (hall ⟨0, .data⟩ (by simp) rfl)
      clear hI hall hnot hcl
      refine .inl ⟨wanted_none rfl, ?_⟩
      unfold Oper.wp
      go_simp
      refine (QB0 _).out.mono ?_
      rintro e w4 ⟨rfl, b4⟩
      exact ⟨_, rfl, b4, rfl, below_of hB hB.size b4⟩
    · simp at hq; subst hq
      have g3 : act.tmps[3]?.getD undef = .pointer (some ⟨(w.heap.size + 1), 0, none⟩) := hI.kept 3 (by kernel_rfl)
      clear hI hall hnot hcl
      refine .inl ⟨wanted_none rfl, ?_⟩
      unfold Oper.wp
      go_simp
      all_goals first | first | exact ⟨_, rfl, Below.refl _ _, rfl⟩ | exact ⟨_, rfl, Below.refl _ _, rfl, hB⟩ | exact ⟨Below.refl _ _, hB⟩ | exact Below.refl _ _
    · simp at hq; subst hq
      have g7 : act.tmps[7]?.getD undef = .agg #[.float .f32 x', .float .f32 y', .float .f32 z'] := hI.has 2 7 rfl (hall ⟨2, .data⟩ (by simp) rfl)
      clear hI hall hnot hcl
      refine .inl ⟨wanted_none rfl, ?_⟩
      unfold Oper.wp
      go_simp
      refine (QB1 _).out.mono ?_
      rintro e w4 ⟨rfl, b4⟩
      exact ⟨_, rfl, b4, rfl, below_of hB hB.size b4⟩
    · simp at hq; subst hq
      have g6 : act.tmps[6]?.getD undef = .agg #[.int .i64 (canon .f32 x), .int .i64 (canon .f32 y), .int .i64 (canon .f32 z)] := hI.has 1 6 rfl (hall ⟨1, .data⟩ (by simp) rfl)
      have g8 : act.tmps[8]?.getD undef = .agg #[.int .i64 (canon .f32 x'), .int .i64 (canon .f32 y'), .int .i64 (canon .f32 z')] := hI.has 3 8 rfl (hall ⟨3, .data⟩ (by simp) rfl)
      clear hI hall hnot hcl
      refine .inl ⟨wanted_none rfl, ?_⟩
      unfold Oper.wp
      go_simp
      rw [HU.out]
      first | exact ⟨rfl, Below.refl _ _⟩ | exact ⟨rfl, Below.refl _ _, hB⟩ | first | exact ⟨_, rfl, Below.refl _ _, rfl⟩ | exact ⟨_, rfl, Below.refl _ _, rfl, hB⟩
    · simp at hq; subst hq
      have g9 : act.tmps[9]?.getD undef = .bool ub := hI.has 4 9 rfl (hall ⟨4, .data⟩ (by simp) rfl)
      clear hI hall hnot hcl
      refine .inl ⟨wanted_none rfl, ?_⟩
      unfold Oper.wp
      go_simp
      all_goals first | first | exact ⟨_, rfl, Below.refl _ _, rfl⟩ | exact ⟨_, rfl, Below.refl _ _, rfl, hB⟩ | exact ⟨Below.refl _ _, hB⟩ | exact Below.refl _ _
    · simp at hq
  case hend =>
    intro listed act w3 hI hall
    have hB := hI.cls
    obtain ⟨k0, k1, k2⟩ := (K1.out.below hB).three'
    obtain ⟨l0, l1, l2⟩ := (K2.out.below hB).three'
    have g4 : act.tmps[4]?.getD undef = .bool ub := hI.has 5 4 rfl (hall 5 (by decide))
    have hd := hI.defers
    have hB := hI.cls
    clear hI hall
    go_wp2
    refine bodyPost_ret (v := .bool ub) (by simp [results, Try.results183, g4, go_sem]) (by first | rfl | exact hd) ⟨rfl, below_of B1.out B1.out.size hB⟩
/-- the k-th stations are the same -/
def stAt (s t : List Nat) (k : Nat) : Bool := smS (rad s k) (chd s k) (twi s k) (rad t k) (chd t k) (twi t k)
def sameSt (s t : List Nat) (n m : Nat) : Bool := decide (n = m) && alls (stAt s t) n
theorem sameSt_no {s t : List Nat} {n m : Nat} (h : ¬ n = m) : sameSt s t n m = false := by unfold sameSt; rw [decide_eq_false h]; rfl
theorem sameSt_yes {s t : List Nat} {n m : Nat} (h : n = m) : sameSt s t n m = alls (stAt s t) n := by unfold sameSt; rw [decide_eq_true h]; rfl
theorem sameSt_a {s t : List Nat} {n m k : Nat} (h : alls (stAt s t) k = false) (hk : k ≤ n) : sameSt s t n m = false := by unfold sameSt; rw [alls_no h hk, Bool.and_false]
/-- the three numbers of a station in memory -/
theorem Fl.st {w : World} {A : Option Addr} {s : List Nat} {n k : Nat} (h : Fl w A s) (hl : s.length = n * 3) (hk : k < n) : ∃ b off, A = some ⟨b, off, none⟩ ∧ b < w.heap.size ∧ w.cell? ⟨b, off + k * 3, none⟩ = some (.float .f32 (rad s k)) ∧ w.cell? ⟨b, off + k * 3 + 1, none⟩ = some (.float .f32 (chd s k)) ∧ w.cell? ⟨b, off + k * 3 + 2, none⟩ = some (.float .f32 (twi s k)) := by
  obtain ⟨b, off, rfl, hb, -⟩ := h.at_ (k := 0) (by omega)
  refine ⟨b, off, rfl, hb, h.same rfl (by omega), ?_, ?_⟩
  · rw [Nat.add_assoc]; exact h.same rfl (by omega)
  · rw [Nat.add_assoc]; exact h.same rfl (by omega)
set_option maxHeartbeats 8000000 in
set_option maxRecDepth 100000 in
theorem lib_EqualFunc_station (A B : Option Addr) (n m cap cap' : Nat) (s t : List Nat) (w : World) (h : Fl w A s) (h' : Fl w B t) (hls : s.length = n * 3) (hlt' : t.length = m * 3) (hn : n ≤ 1048576) (hm : m ≤ 1048576) (hx : Words s) (hy : Words t) :
    Calls Try.prog 182 #[.slice A n cap, .slice B m cap', .func (.func 183) #[] #[]] w fun e w' => e = .returned (.bool (sameSt s t n m)) ∧ Below w.heap.size w w' := by
  have HF := Lib.hid h; clear h
  have HG := Lib.hid h'; clear h'
  have HX : Hid (∀ k, k < n → canon .f32 (rad s k) < 4294967296 ∧ canon .f32 (chd s k) < 4294967296 ∧ canon .f32 (twi s k) < 4294967296) := Lib.hid (fun k hk => ⟨hx _ (by omega), hx _ (by omega), hx _ (by omega)⟩)
  have HY : Hid (∀ k, k < m → canon .f32 (rad t k) < 4294967296 ∧ canon .f32 (chd t k) < 4294967296 ∧ canon .f32 (twi t k) < 4294967296) := Lib.hid (fun k hk => ⟨hy _ (by omega), hy _ (by omega), hy _ (by omega)⟩)
  have HLS := Lib.hid hls
  have HLT := Lib.hid hlt'
  clear hx hy hls hlt'
  by_cases hl : n = m
  · have e1 : ((n : Int) != (m : Int)) = false := by simp; omega
    have HV := Lib.hid (sameSt_yes (s := s) (t := t) hl)
    have hle : n ≤ m := by omega
    have HNo : Hid (∀ k, alls (stAt s t) k = false → k ≤ n → sameSt s t n m = false) := Lib.hid (fun k h hk => sameSt_a h hk)
    clear hl
    go_enter Try.func182, Try.ntmps182
    go_wp2
    go_loopw [17] (fun i wr => ∃ k : Nat, k ≤ n ∧ i = .int .i64 k ∧ Hid (alls (stAt s t) k = true) ∧ Hid (Below w.heap.size w wr)) (fun i _ => n - (intOf i).toNat)
    case atStart => exact ⟨0, Nat.zero_le _, rfl, rfl, Lib.hid (Below.refl _ _)⟩
    case round =>
      obtain ⟨k, hk, rfl, hr, HBW⟩ := hrel
      clear e1
      by_cases hlt : k < n
      · have hlt2 : k < m := by omega
        obtain ⟨b, off, rfl, hb, hc0, hc1, hc2⟩ := (HF.out.below HBW.out).st HLS.out hlt
        obtain ⟨b', off', rfl, hb', -⟩ := HG.out.st HLT.out hlt2
        have HG1 : ∀ o1, Hid ((wr.alloc o1).cell? ⟨b', off' + k * 3, none⟩ = some (.float .f32 (rad t k)) ∧ (wr.alloc o1).cell? ⟨b', off' + k * 3 + 1, none⟩ = some (.float .f32 (chd t k)) ∧ (wr.alloc o1).cell? ⟨b', off' + k * 3 + 2, none⟩ = some (.float .f32 (twi t k))) := fun o1 => Lib.hid (by
          obtain ⟨b1, off1, e, -, g0, g1, g2⟩ := (HG.out.below (HBW.out.alloc HBW.out.size o1)).st HLT.out hlt2
          simp only [Option.some.injEq, Addr.mk.injEq] at e
          obtain ⟨rfl, rfl, -⟩ := e
          exact ⟨g0, g1, g2⟩)
        have hd0 := fun o1 => (HG1 o1).out.1
        have hd1 := fun o1 => (HG1 o1).out.2.1
        have hd2 := fun o1 => (HG1 o1).out.2.2
        have HB2 : ∀ o1 o2, Hid (Below w.heap.size w ((wr.alloc o1).alloc o2)) := fun o1 o2 => Lib.hid ((HBW.out.alloc HBW.out.size o1).alloc (by have := HBW.out.size; simp; omega) o2)
        have HA : Hid (alls (stAt s t) (k + 1) = smS (rad s k) (chd s k) (twi s k) (rad t k) (chd t k) (twi t k)) := Lib.hid (by show (alls _ k && _) = _; rw [hr.out]; rfl)
        have AX := Lib.hid (HX.out k hlt)
        have AY := Lib.hid (HY.out k hlt2)
        generalize rad s k = x at hc0 HA AX
        generalize chd s k = y at hc1 HA AX
        generalize twi s k = z at hc2 HA AX
        generalize rad t k = x' at hd0 HA AY
        generalize chd t k = y' at hd1 HA AY
        generalize twi t k = z' at hd2 HA AY
        clear hb hb' HG1
        go_wp2_with fail
        refine (i_sameStation x y z x' y' z' _ AX.out.1 AX.out.2.1 AX.out.2.2 AY.out.1 AY.out.2.1 AY.out.2.2).mono ?_
        rintro e w3 ⟨rfl, b3⟩
        have B3 : Hid (Below w.heap.size w w3) := Lib.hid (below_of (HB2 _ _).out (HB2 _ _).out.size b3)
        clear b3 hc0 hc1 hc2 hd0 hd1 hd2 HB2
        cases hp : smS x y z x' y' z'
        · have HN : Hid (sameSt s t n m = false) := Lib.hid (HNo.out (k + 1) (by rw [HA.out, hp]) (by omega))
          clear hp
          go_wp2
          go_ret
          exact ⟨by rw [HN.out]; rfl, B3.out⟩
        · have HQ : Hid (alls (stAt s t) (k + 1) = true) := Lib.hid (by rw [HA.out, hp])
          clear hp
          go_wp2
          go_roundw
          case rel => exact ⟨k + 1, by omega, by go_num, HQ, B3⟩
          case measure => simp [intOf]; omega
      · have hkk : k = n := by omega
        subst hkk
        have HN : Hid (sameSt s t k m = true) := Lib.hid (by rw [HV.out, hr.out])
        go_wp2
        go_ret
        exact ⟨by rw [HN.out]; rfl, HBW.out⟩
  · have e1 : ((n : Int) != (m : Int)) = true := by rw [bne_iff_ne]; omega
    have HN := Lib.hid (sameSt_no (s := s) (t := t) hl)
    clear hl
    go_enter Try.func182, Try.ntmps182
    go_wp2
    go_ret
    exact ⟨by rw [HN.out]; rfl, Below.refl _ _⟩
end Go.Proofs.Ytiiiigldpbomkaa
