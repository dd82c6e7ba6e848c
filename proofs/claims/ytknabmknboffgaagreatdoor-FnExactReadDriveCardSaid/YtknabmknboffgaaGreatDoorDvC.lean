/- A drive out of a text: the reader. No statement is proved here. -/
import Derived.Test.YtknabmknboffgaaGreatDoorDvI
import Derived.Test.YtknabmknboffgaaGreatDoorRdB
namespace Go.Proofs.YtknabmknboffgaaGreatDoor
open Go Go.RowKit
set_option maxHeartbeats 4000000 in
theorem i_rdDrive1_yes (B1 B2 B3 : Nat) (s : ByteArray) (W w : World) (hs : s.size ≤ 1048576) (hE : EV w) (hT : T64 w) (hX : T10 w) (hM : ML w) (h : dvO s = true)
    (l1 : BlkL w B1 [.func (.func 28) #[] #[]]) (l2 : BlkL w B2 [.string s]) (l3 : BlkL w B3 [.float .f32 0, .float .f32 0, .float .f32 0, .float .f32 0, .float .f32 0, .float .f32 0, .float .f32 0, .float .f32 0, .int .i64 0, .float .f32 0, .float .f32 0, .float .f32 0]) (hW : Below W.heap.size W w) (hB : W.heap.size ≤ B3) :
    Calls Tryz.prog 54 #[.pointer (some ⟨B1, 0, none⟩), .pointer (some ⟨B2, 0, none⟩), .pointer (some ⟨B3, 0, none⟩)] w fun e w' => e = .returned (.tuple #[]) ∧ BlkL w' B3 [.float .f32 (dvP s 0), .float .f32 (dvP s 1), .float .f32 (dvP s 2), .float .f32 (dvP s 3), .float .f32 (dvP s 4), .float .f32 (dvP s 5), .float .f32 (dvP s 6), .float .f32 (dvP s 7), .int .i64 (dvZ s), .float .f32 (dvE s 0), .float .f32 (dvE s 1), .float .f32 (dvE s 2)] ∧ (∀ B vs, B < w.heap.size → B ≠ B3 → BlkL w B vs → BlkL w' B vs) ∧ Below W.heap.size W w' := by
  have HC := Lib.hid (i_driveIn_ok s w hs hE hT hX hM h)
  have m1 := (l1.2 0 _ rfl).1
  have m2 := (l2.2 0 _ rfl).1
  have L3 := Lib.hid l3
  have HW := Lib.hid hW
  have HB := Lib.hid hB
  clear hs hE hT hX hM h l1 l2 l3 hW hB
  generalize dvP s 0 = x0 at HC ⊢
  generalize dvP s 1 = x1 at HC ⊢
  generalize dvP s 2 = x2 at HC ⊢
  generalize dvP s 3 = x3 at HC ⊢
  generalize dvP s 4 = x4 at HC ⊢
  generalize dvP s 5 = x5 at HC ⊢
  generalize dvP s 6 = x6 at HC ⊢
  generalize dvP s 7 = x7 at HC ⊢
  generalize dvZ s = z at HC ⊢
  generalize dvE s 0 = y0 at HC ⊢
  generalize dvE s 1 = y1 at HC ⊢
  generalize dvE s 2 = y2 at HC ⊢
  go_enter Tryz.func54, Tryz.ntmps54
  go_wp2_with fail
  refine HC.out.mono ?_
  rintro e w1 ⟨rfl, b1⟩
  have B1' := Lib.hid b1
  have L4 := Lib.hid (L3.out.below b1)
  clear b1 m1 m2
  obtain ⟨⟨k0, f0⟩, ⟨k1, f1⟩, ⟨k2, f2⟩, ⟨k3, f3⟩, ⟨k4, f4⟩, ⟨k5, f5⟩, ⟨k6, f6⟩, ⟨k7, f7⟩, ⟨k8, f8⟩, ⟨k9, f9⟩, ⟨k10, f10⟩, ⟨k11, f11⟩⟩ : (_ ∧ _) ∧ (_ ∧ _) ∧ (_ ∧ _) ∧ (_ ∧ _) ∧ (_ ∧ _) ∧ (_ ∧ _) ∧ (_ ∧ _) ∧ (_ ∧ _) ∧ (_ ∧ _) ∧ (_ ∧ _) ∧ (_ ∧ _) ∧ (_ ∧ _) := ⟨L4.out.2 0 _ rfl, L4.out.2 1 _ rfl, L4.out.2 2 _ rfl, L4.out.2 3 _ rfl, L4.out.2 4 _ rfl, L4.out.2 5 _ rfl, L4.out.2 6 _ rfl, L4.out.2 7 _ rfl, L4.out.2 8 _ rfl, L4.out.2 9 _ rfl, L4.out.2 10 _ rfl, L4.out.2 11 _ rfl⟩
  go_wp2
  refine bodyPost_end (v := .tuple #[]) (by simp [results, Tryz.results54, go_sem]) (by simp) ⟨rfl, ?_, ?_, ?_⟩
  · exact ((((((((((((L4.out.set (i := 0) (by simp) (.float .f32 x0)).set (i := 1) (by simp) (.float .f32 x1)).set (i := 2) (by simp) (.float .f32 x2)).set (i := 3) (by simp) (.float .f32 x3)).set (i := 4) (by simp) (.float .f32 x4)).set (i := 5) (by simp) (.float .f32 x5)).set (i := 6) (by simp) (.float .f32 x6)).set (i := 7) (by simp) (.float .f32 x7)).set (i := 8) (by simp) (.int .i64 z)).set (i := 9) (by simp) (.float .f32 y0)).set (i := 10) (by simp) (.float .f32 y1)).set (i := 11) (by simp) (.float .f32 y2))
  · intro B vs hB hne hv
    have h1 := hv.below B1'.out
    exact ((((((((((((h1.setCell (p := ⟨B3, 0, none⟩) (Ne.symm hne) _).setCell (p := ⟨B3, 1, none⟩) (Ne.symm hne) _).setCell (p := ⟨B3, 2, none⟩) (Ne.symm hne) _).setCell (p := ⟨B3, 3, none⟩) (Ne.symm hne) _).setCell (p := ⟨B3, 4, none⟩) (Ne.symm hne) _).setCell (p := ⟨B3, 5, none⟩) (Ne.symm hne) _).setCell (p := ⟨B3, 6, none⟩) (Ne.symm hne) _).setCell (p := ⟨B3, 7, none⟩) (Ne.symm hne) _).setCell (p := ⟨B3, 8, none⟩) (Ne.symm hne) _).setCell (p := ⟨B3, 9, none⟩) (Ne.symm hne) _).setCell (p := ⟨B3, 10, none⟩) (Ne.symm hne) _).setCell (p := ⟨B3, 11, none⟩) (Ne.symm hne) _)
  · exact (((((((((((((below_of HW.out HW.out.size B1'.out).setCell (p := ⟨B3, 0, none⟩) HB.out _).setCell (p := ⟨B3, 1, none⟩) HB.out _).setCell (p := ⟨B3, 2, none⟩) HB.out _).setCell (p := ⟨B3, 3, none⟩) HB.out _).setCell (p := ⟨B3, 4, none⟩) HB.out _).setCell (p := ⟨B3, 5, none⟩) HB.out _).setCell (p := ⟨B3, 6, none⟩) HB.out _).setCell (p := ⟨B3, 7, none⟩) HB.out _).setCell (p := ⟨B3, 8, none⟩) HB.out _).setCell (p := ⟨B3, 9, none⟩) HB.out _).setCell (p := ⟨B3, 10, none⟩) HB.out _).setCell (p := ⟨B3, 11, none⟩) HB.out _)
theorem i_rdDrive1_no (B1 B2 B3 : Nat) (s : ByteArray) (pv : Value) (w : World) (hs : s.size ≤ 1048576) (hE : EV w) (hT : T64 w) (hX : T10 w) (hM : ML w) (hV : EMv pv w) (h : dvO s = false)
    (l1 : BlkL w B1 [.func (.func 28) #[] #[]]) (l2 : BlkL w B2 [.string s]) :
    Calls Tryz.prog 54 #[.pointer (some ⟨B1, 0, none⟩), .pointer (some ⟨B2, 0, none⟩), .pointer (some ⟨B3, 0, none⟩)] w fun e w' => e = .panicked (chn pv) ∧ Below w.heap.size w w' := by
  have HC := Lib.hid (i_driveIn_no s pv w hs hE hT hX hM hV h)
  have m1 := (l1.2 0 _ rfl).1
  have m2 := (l2.2 0 _ rfl).1
  clear hs hE hT hX hM h hV l1 l2
  go_enter Tryz.func54, Tryz.ntmps54
  go_wp2_with fail
  refine HC.out.mono ?_
  rintro e w1 ⟨rfl, b1⟩
  go_wp2
  exact ⟨rfl, rfl, b1⟩
set_option maxHeartbeats 4000000 in
theorem i_attDrive_yes (B1 B2 B3 : Nat) (s : ByteArray) (W w : World) (hs : s.size ≤ 1048576) (hE : EV w) (hT : T64 w) (hX : T10 w) (hM : ML w) (h : dvO s = true)
    (l1 : BlkL w B1 [.func (.func 28) #[] #[]]) (l2 : BlkL w B2 [.string s]) (l3 : BlkL w B3 [.float .f32 0, .float .f32 0, .float .f32 0, .float .f32 0, .float .f32 0, .float .f32 0, .float .f32 0, .float .f32 0, .int .i64 0, .float .f32 0, .float .f32 0, .float .f32 0]) (hW : Below W.heap.size W w) (hB : W.heap.size ≤ B3) :
    Calls Tryz.prog 53 #[.func (.func 54) #[] #[.pointer (some ⟨B1, 0, none⟩), .pointer (some ⟨B2, 0, none⟩), .pointer (some ⟨B3, 0, none⟩)]] w fun e w' => e = .returned .nilIface ∧ BlkL w' B3 [.float .f32 (dvP s 0), .float .f32 (dvP s 1), .float .f32 (dvP s 2), .float .f32 (dvP s 3), .float .f32 (dvP s 4), .float .f32 (dvP s 5), .float .f32 (dvP s 6), .float .f32 (dvP s 7), .int .i64 (dvZ s), .float .f32 (dvE s 0), .float .f32 (dvE s 1), .float .f32 (dvE s 2)] ∧ (∀ B vs, B < w.heap.size → B ≠ B3 → BlkL w B vs → BlkL w' B vs) ∧ Below W.heap.size W w' := by
  have hmf : ∀ (fn : Fn) (first cap : Array Value) (w : World), (Instr.makeFunc fn first cap).run Tryz.prog w = .ok (.func fn first cap) w := fun _ _ _ _ => rfl
  have b0 : Below w.heap.size w (w.alloc (.cells #[.nilIface] 79)) := (Below.refl _ _).alloc (Nat.le_refl _) _
  have HB0 := Lib.hid b0
  have K0 : Hid (BlkL (w.alloc (.cells #[.nilIface] 79)) w.heap.size [.nilIface]) := Lib.hid (blkL_at w #[.nilIface] _ rfl)
  have hlt : B3 < w.heap.size := l3.1
  have HC := Lib.hid (i_rdDrive1_yes B1 B2 B3 s W _ hs (hE.below b0) (hT.below b0) (hX.below b0) (hM.below b0) h (l1.below b0) (l2.below b0) (l3.below b0) (below_of hW hW.size b0) hB)
  have LT := Lib.hid hlt
  have HW := Lib.hid hW.size
  clear hs hE hT hX hM h l1 l2 l3 hW hB hlt b0
  generalize dvP s 0 = x0 at HC ⊢
  generalize dvP s 1 = x1 at HC ⊢
  generalize dvP s 2 = x2 at HC ⊢
  generalize dvP s 3 = x3 at HC ⊢
  generalize dvP s 4 = x4 at HC ⊢
  generalize dvP s 5 = x5 at HC ⊢
  generalize dvP s 6 = x6 at HC ⊢
  generalize dvP s 7 = x7 at HC ⊢
  generalize dvZ s = z at HC ⊢
  generalize dvE s 0 = y0 at HC ⊢
  generalize dvE s 1 = y1 at HC ⊢
  generalize dvE s 2 = y2 at HC ⊢
  go_enter_defers Tryz.func53, Tryz.ntmps53
  go_wp2_with fail
  refine HC.out.mono ?_
  rintro e w1 ⟨rfl, hx, hk, hb⟩
  have K1 := Lib.hid (hk w.heap.size _ (by simp) (Nat.ne_of_gt LT.out) K0.out)
  have X1 := Lib.hid hx
  have KK := Lib.hid hk
  have BB := Lib.hid hb
  clear hx hk hb HC
  obtain ⟨k, f⟩ := K1.out.2 0 _ rfl
  go_wp2
  refine leaves_cons (f := 88) (args := #[.pointer (some ⟨w.heap.size, 0, none⟩)]) (by simp) (by simp [go_sem]) ?_
  refine (att_idle ⟨w.heap.size, 0, none⟩ _).mono ?_
  rintro e u' w'' ⟨rfl, rfl, rfl⟩
  have kc : (w1.setCell ⟨w.heap.size, 0, none⟩ .nilIface).cell? ⟨w.heap.size, 0, none⟩ = some .nilIface := World.cell?_setCell_same _ _ _ k
  simp [Leaves, settle, results, Tryz.results53, go_sem, kc]
  exact ⟨X1.out.setCell (Nat.ne_of_gt LT.out) _, fun B vs hB hne hv => (KK.out B vs (by simp; omega) hne (hv.below HB0.out)).setCell (Nat.ne_of_gt hB) _, BB.out.setCell HW.out _⟩
theorem i_attDrive_no (B1 B2 B3 : Nat) (s : ByteArray) (pv : Value) (w : World) (hs : s.size ≤ 1048576) (hE : EV w) (hT : T64 w) (hX : T10 w) (hM : ML w) (hV : EMv pv w) (h : dvO s = false)
    (l1 : BlkL w B1 [.func (.func 28) #[] #[]]) (l2 : BlkL w B2 [.string s]) :
    Calls Tryz.prog 53 #[.func (.func 54) #[] #[.pointer (some ⟨B1, 0, none⟩), .pointer (some ⟨B2, 0, none⟩), .pointer (some ⟨B3, 0, none⟩)]] w fun e w' => e = .returned (.iface 179 pv) ∧ Below w.heap.size w w' := by
  have hmf : ∀ (fn : Fn) (first cap : Array Value) (w : World), (Instr.makeFunc fn first cap).run Tryz.prog w = .ok (.func fn first cap) w := fun _ _ _ _ => rfl
  have b0 : Below w.heap.size w (w.alloc (.cells #[.nilIface] 79)) := (Below.refl _ _).alloc (Nat.le_refl _) _
  have HB0 := Lib.hid b0
  have K0 : Hid (BlkL (w.alloc (.cells #[.nilIface] 79)) w.heap.size [.nilIface]) := Lib.hid (blkL_at w #[.nilIface] _ rfl)
  have HC := Lib.hid (i_rdDrive1_no B1 B2 B3 s pv _ hs (hE.below b0) (hT.below b0) (hX.below b0) (hM.below b0) (hV.below b0) h (l1.below b0) (l2.below b0))
  clear hs hE hT hX hM h hV l1 l2 b0
  go_enter_defers Tryz.func53, Tryz.ntmps53
  go_wp2_with fail
  refine HC.out.mono ?_
  rintro e w1 ⟨rfl, hb⟩
  have K1 := Lib.hid (K0.out.below hb)
  have BB := Lib.hid hb
  clear hb HC
  obtain ⟨k, f⟩ := K1.out.2 0 _ rfl
  go_wp2
  refine leaves_cons (f := 88) (args := #[.pointer (some ⟨w.heap.size, 0, none⟩)]) (by simp) (by simp [go_sem]) ?_
  refine (att_panic ⟨w.heap.size, 0, none⟩ pv [] _ k f).mono ?_
  rintro e u' w'' ⟨rfl, rfl, rfl⟩
  have kc : (w1.setCell ⟨w.heap.size, 0, none⟩ (.iface 179 pv)).cell? ⟨w.heap.size, 0, none⟩ = some (.iface 179 pv) := World.cell?_setCell_same _ _ _ k
  simp [Leaves, settle, results, Tryz.results53, go_sem, kc]
  exact (below_of HB0.out HB0.out.size BB.out).setCell (Nat.le_refl _) _
end Go.Proofs.YtknabmknboffgaaGreatDoor
