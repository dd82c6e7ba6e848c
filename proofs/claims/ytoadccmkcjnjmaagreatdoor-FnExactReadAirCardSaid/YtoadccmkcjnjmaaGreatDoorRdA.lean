/- Air out of a text: both sides. No statement is proved here. -/
import Derived.Test.YtoadccmkcjnjmaaGreatDoorRec
import Derived.Test.YtoadccmkcjnjmaaGreatDoorAir
import Derived.RegionTactic
import Derived.BigRegion
namespace Go.Proofs.YtoadccmkcjnjmaaGreatDoor
open Go Go.RowKit
theorem BlkL.setCell {w : World} {B : Nat} {vs : List Value} (h : BlkL w B vs) {p : Addr} (hp : p.block ≠ B) (v : Value) : BlkL (w.setCell p v) B vs :=
  ⟨by simpa [World.setCell] using h.1, fun j u hj => ⟨by rw [World.cell?_setCell_other (h := by intro hh; exact hp (by rw [hh]))]; exact (h.2 j u hj).1, by rw [World.frozen?_setCell]; exact (h.2 j u hj).2⟩⟩
def n4 (s : ByteArray) (k : Nat) : Nat := (nmL s).getD k 0
/-- whether a text has four numbers -/
def fourO (s : ByteArray) : Bool := nmO s && decide ((nmL s).length = 4)
def raO (s : ByteArray) : Bool := fourO s && airV (n4 s 0) (n4 s 1) (n4 s 2) (n4 s 3)
theorem fourO_iff {s : ByteArray} : fourO s = true ↔ (nmO s = true ∧ (nmL s).length = 4) := by unfold fourO; rw [Bool.and_eq_true, decide_eq_true_eq]
theorem raO_no {s : ByteArray} (h : fourO s = false) : raO s = false := by unfold raO; rw [h]; rfl
/-- what is read: the numbers, or none -/
def raV (s : ByteArray) (k : Nat) : Nat := if raO s then n4 s k else 0
set_option maxHeartbeats 4000000 in
theorem i_airIn_yes (s : ByteArray) (w : World) (hs : s.size ≤ 1048576) (hE : EV w) (hT : T64 w) (hM : ML w) (h : fourO s = true) :
    Calls Tryz.prog 32 #[.string s] w fun e w' => e = .returned (.agg #[.float .f32 (n4 s 0), .float .f32 (n4 s 1), .float .f32 (n4 s 2), .float .f32 (n4 s 3)]) ∧ Below w.heap.size w w' := by
  obtain ⟨ho, hl⟩ := fourO_iff.1 h
  obtain ⟨w0, hw0⟩ : ∃ z, z = w.alloc (.cells #[.float .f32 0, .float .f32 0, .float .f32 0, .float .f32 0] 24) := ⟨_, rfl⟩
  have B0 : Hid (Below w.heap.size w w0) := Lib.hid (by rw [hw0]; exact (Below.refl _ _).alloc (Nat.le_refl _) _)
  have K0 : Hid (BlkL w0 w.heap.size [.float .f32 0, .float .f32 0, .float .f32 0, .float .f32 0]) := Lib.hid (by rw [hw0]; exact blkL_at w #[.float .f32 0, .float .f32 0, .float .f32 0, .float .f32 0] _ rfl)
  have HC := Lib.hid (i_numbersIn_yes s 4 w0 hs (hE.below (by rw [hw0]; exact (Below.refl _ _).alloc (Nat.le_refl _) _)) (hT.below (by rw [hw0]; exact (Below.refl _ _).alloc (Nat.le_refl _) _)) (hM.below (by rw [hw0]; exact (Below.refl _ _).alloc (Nat.le_refl _) _)) ho hl)
  clear hs hE hT hM h ho
  have HL := Lib.hid hl
  clear hl
  obtain ⟨x0, hx0⟩ : ∃ x, x = n4 s 0 := ⟨_, rfl⟩
  obtain ⟨x1, hx1⟩ : ∃ x, x = n4 s 1 := ⟨_, rfl⟩
  obtain ⟨x2, hx2⟩ : ∃ x, x = n4 s 2 := ⟨_, rfl⟩
  obtain ⟨x3, hx3⟩ : ∃ x, x = n4 s 3 := ⟨_, rfl⟩
  rw [← hx0, ← hx1, ← hx2, ← hx3]
  have HX : Hid (x0 = (nmL s).getD 0 0 ∧ x1 = (nmL s).getD 1 0 ∧ x2 = (nmL s).getD 2 0 ∧ x3 = (nmL s).getD 3 0) := Lib.hid ⟨hx0, hx1, hx2, hx3⟩
  clear hx0 hx1 hx2 hx3
  go_enter Tryz.func32, Tryz.ntmps32
  go_upto_region 1 with fail
  rw [← hw0]
  clear hw0
  go_wp2_with fail
  refine HC.out.mono ?_
  rintro e w1 ⟨R1, c1, g1, rfl, ho, b1⟩
  have B1 : Hid (Below w.heap.size w w1) := Lib.hid (below_of B0.out B0.out.size b1)
  have K1 := Lib.hid (K0.out.below b1)
  have HF := Lib.hid ho.fl
  clear ho b1 HC
  obtain ⟨b, off, rfl, hb, h0⟩ := HF.out.at_ (k := 0) (by rw [HL.out]; decide)
  obtain ⟨b', off', e1, hb1, h1⟩ := HF.out.at_ (k := 1) (by rw [HL.out]; decide)
  obtain ⟨b'', off'', e2, hb2, h2⟩ := HF.out.at_ (k := 2) (by rw [HL.out]; decide)
  obtain ⟨b3, off3, e3, hb3, h3⟩ := HF.out.at_ (k := 3) (by rw [HL.out]; decide)
  simp only [Option.some.injEq, Addr.mk.injEq] at e1 e2 e3
  obtain ⟨rfl, rfl, -⟩ := e1
  obtain ⟨rfl, rfl, -⟩ := e2
  obtain ⟨rfl, rfl, -⟩ := e3
  clear hb hb1 hb2 hb3
  rw [show (nmL s).getD 0 0 = x0 from HX.out.1.symm, Nat.add_zero] at h0
  rw [show (nmL s).getD 1 0 = x1 from HX.out.2.1.symm] at h1
  rw [show (nmL s).getD 2 0 = x2 from HX.out.2.2.1.symm] at h2
  rw [show (nmL s).getD 3 0 = x3 from HX.out.2.2.2.symm] at h3
  obtain ⟨⟨k0, f0⟩, ⟨k1, f1⟩, ⟨k2, f2⟩, ⟨k3, f3⟩⟩ : (_ ∧ _) ∧ (_ ∧ _) ∧ (_ ∧ _) ∧ (_ ∧ _) := ⟨K1.out.2 0 _ rfl, K1.out.2 1 _ rfl, K1.out.2 2 _ rfl, K1.out.2 3 _ rfl⟩
  have B2 : Hid (Below w.heap.size w ((((w1.setCell ⟨w.heap.size, 0, none⟩ (.float .f32 x0)).setCell ⟨w.heap.size, 1, none⟩ (.float .f32 x1)).setCell ⟨w.heap.size, 2, none⟩ (.float .f32 x2)).setCell ⟨w.heap.size, 3, none⟩ (.float .f32 x3)).drew) := Lib.hid (((((B1.out.setCell (p := ⟨w.heap.size, 0, none⟩) (Nat.le_refl _) _).setCell (p := ⟨w.heap.size, 1, none⟩) (Nat.le_refl _) _).setCell (p := ⟨w.heap.size, 2, none⟩) (Nat.le_refl _) _).setCell (p := ⟨w.heap.size, 3, none⟩) (Nat.le_refl _) _).drew)
  go_upto_region 2 with fail
  go_region
  go_wp2
  refine bodyPost_ret (v := .agg #[.float .f32 x0, .float .f32 x1, .float .f32 x2, .float .f32 x3]) ?_ ?_ ?_
  · simp [results, Tryz.results32, go_sem, k0, k1, k2, k3]
  · rfl
  · exact ⟨rfl, B2.out⟩
theorem i_airIn_no (s : ByteArray) (pv : Value) (w : World) (hs : s.size ≤ 1048576) (hE : EV w) (hT : T64 w) (hM : ML w) (hV : EMv pv w) (h : fourO s = false) :
    Calls Tryz.prog 32 #[.string s] w fun e w' => e = .panicked (chn pv) ∧ Below w.heap.size w w' := by
  have ho : ¬ (nmO s = true ∧ (nmL s).length = 4) := fun e => by rw [fourO_iff.2 e] at h; cases h
  obtain ⟨w0, hw0⟩ : ∃ z, z = w.alloc (.cells #[.float .f32 0, .float .f32 0, .float .f32 0, .float .f32 0] 24) := ⟨_, rfl⟩
  have b0 : Below w.heap.size w w0 := by rw [hw0]; exact (Below.refl _ _).alloc (Nat.le_refl _) _
  have HC := Lib.hid (i_numbersIn_no s 4 pv w0 hs (hE.below b0) (hT.below b0) (hM.below b0) (hV.below b0) ho)
  have B0 := Lib.hid b0
  clear hs hE hT hM h ho b0 hV
  go_enter Tryz.func32, Tryz.ntmps32
  go_upto_region 1 with fail
  rw [← hw0]
  clear hw0
  go_wp2_with fail
  refine HC.out.mono ?_
  rintro e w1 ⟨rfl, b1⟩
  go_wp2
  exact ⟨rfl, rfl, below_of B0.out B0.out.size b1⟩
set_option maxHeartbeats 2000000 in
theorem i_rdAir1_yes (B1 B2 B3 : Nat) (s : ByteArray) (W w : World) (hs : s.size ≤ 1048576) (hE : EV w) (hT : T64 w) (hM : ML w) (h : fourO s = true)
    (l1 : BlkL w B1 [.func (.func 32) #[] #[]]) (l2 : BlkL w B2 [.string s]) (l3 : BlkL w B3 [.float .f32 0, .float .f32 0, .float .f32 0, .float .f32 0]) (hW : Below W.heap.size W w) (hB : W.heap.size ≤ B3) :
    Calls Tryz.prog 60 #[.pointer (some ⟨B1, 0, none⟩), .pointer (some ⟨B2, 0, none⟩), .pointer (some ⟨B3, 0, none⟩)] w fun e w' => e = .returned (.tuple #[]) ∧ BlkL w' B3 [.float .f32 (n4 s 0), .float .f32 (n4 s 1), .float .f32 (n4 s 2), .float .f32 (n4 s 3)] ∧ (∀ B vs, B < w.heap.size → B ≠ B3 → BlkL w B vs → BlkL w' B vs) ∧ Below W.heap.size W w' := by
  have HC := Lib.hid (i_airIn_yes s w hs hE hT hM h)
  have m1 := (l1.2 0 _ rfl).1
  have m2 := (l2.2 0 _ rfl).1
  have L3 := Lib.hid l3
  have HW := Lib.hid hW
  have HB := Lib.hid hB
  clear hs hE hT hM h l1 l2 l3 hW hB
  generalize n4 s 0 = x0 at HC ⊢
  generalize n4 s 1 = x1 at HC ⊢
  generalize n4 s 2 = x2 at HC ⊢
  generalize n4 s 3 = x3 at HC ⊢
  go_enter Tryz.func60, Tryz.ntmps60
  go_wp2_with fail
  refine HC.out.mono ?_
  rintro e w1 ⟨rfl, b1⟩
  have B1' := Lib.hid b1
  have L4 := Lib.hid (L3.out.below b1)
  clear b1 m1 m2
  obtain ⟨⟨k0, f0⟩, ⟨k1, f1⟩, ⟨k2, f2⟩, ⟨k3, f3⟩⟩ : (_ ∧ _) ∧ (_ ∧ _) ∧ (_ ∧ _) ∧ (_ ∧ _) := ⟨L4.out.2 0 _ rfl, L4.out.2 1 _ rfl, L4.out.2 2 _ rfl, L4.out.2 3 _ rfl⟩
  go_wp2
  refine bodyPost_end (v := .tuple #[]) (by simp [results, Tryz.results60, go_sem]) (by simp) ⟨rfl, ?_, ?_, ?_⟩
  · exact (((L4.out.set (i := 0) (by simp) (.float .f32 x0)).set (i := 1) (by simp) (.float .f32 x1)).set (i := 2) (by simp) (.float .f32 x2)).set (i := 3) (by simp) (.float .f32 x3)
  · intro B vs hB hne hv
    have h1 := hv.below B1'.out
    exact ((((h1.setCell (p := ⟨B3, 0, none⟩) (Ne.symm hne) _).setCell (p := ⟨B3, 1, none⟩) (Ne.symm hne) _).setCell (p := ⟨B3, 2, none⟩) (Ne.symm hne) _).setCell (p := ⟨B3, 3, none⟩) (Ne.symm hne) _)
  · exact ((((below_of HW.out HW.out.size B1'.out).setCell (p := ⟨B3, 0, none⟩) HB.out _).setCell (p := ⟨B3, 1, none⟩) HB.out _).setCell (p := ⟨B3, 2, none⟩) HB.out _).setCell (p := ⟨B3, 3, none⟩) HB.out _
theorem i_rdAir1_no (B1 B2 B3 : Nat) (s : ByteArray) (pv : Value) (w : World) (hs : s.size ≤ 1048576) (hE : EV w) (hT : T64 w) (hM : ML w) (hV : EMv pv w) (h : fourO s = false)
    (l1 : BlkL w B1 [.func (.func 32) #[] #[]]) (l2 : BlkL w B2 [.string s]) :
    Calls Tryz.prog 60 #[.pointer (some ⟨B1, 0, none⟩), .pointer (some ⟨B2, 0, none⟩), .pointer (some ⟨B3, 0, none⟩)] w fun e w' => e = .panicked (chn pv) ∧ Below w.heap.size w w' := by
  have HC := Lib.hid (i_airIn_no s pv w hs hE hT hM hV h)
  have m1 := (l1.2 0 _ rfl).1
  have m2 := (l2.2 0 _ rfl).1
  clear hs hE hT hM h hV l1 l2
  go_enter Tryz.func60, Tryz.ntmps60
  go_wp2_with fail
  refine HC.out.mono ?_
  rintro e w1 ⟨rfl, b1⟩
  go_wp2
  exact ⟨rfl, rfl, b1⟩
end Go.Proofs.YtoadccmkcjnjmaaGreatDoor
