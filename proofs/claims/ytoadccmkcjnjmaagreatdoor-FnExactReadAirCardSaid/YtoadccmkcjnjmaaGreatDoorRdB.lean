/- Air out of a text: attempt, and the reader. No statement is proved here. -/
import Derived.Test.YtoadccmkcjnjmaaGreatDoorRdA
namespace Go.Proofs.YtoadccmkcjnjmaaGreatDoor
open Go Go.RowKit
set_option maxHeartbeats 2000000 in
theorem i_attAir_yes (B1 B2 B3 : Nat) (s : ByteArray) (W w : World) (hs : s.size ≤ 1048576) (hE : EV w) (hT : T64 w) (hM : ML w) (h : fourO s = true)
    (l1 : BlkL w B1 [.func (.func 32) #[] #[]]) (l2 : BlkL w B2 [.string s]) (l3 : BlkL w B3 [.float .f32 0, .float .f32 0, .float .f32 0, .float .f32 0]) (hW : Below W.heap.size W w) (hB : W.heap.size ≤ B3) :
    Calls Tryz.prog 59 #[.func (.func 60) #[] #[.pointer (some ⟨B1, 0, none⟩), .pointer (some ⟨B2, 0, none⟩), .pointer (some ⟨B3, 0, none⟩)]] w fun e w' => e = .returned .nilIface ∧ BlkL w' B3 [.float .f32 (n4 s 0), .float .f32 (n4 s 1), .float .f32 (n4 s 2), .float .f32 (n4 s 3)] ∧ (∀ B vs, B < w.heap.size → B ≠ B3 → BlkL w B vs → BlkL w' B vs) ∧ Below W.heap.size W w' := by
  have hmf : ∀ (fn : Fn) (first cap : Array Value) (w : World), (Instr.makeFunc fn first cap).run Tryz.prog w = .ok (.func fn first cap) w := fun _ _ _ _ => rfl
  have b0 : Below w.heap.size w (w.alloc (.cells #[.nilIface] 83)) := (Below.refl _ _).alloc (Nat.le_refl _) _
  have HB0 := Lib.hid b0
  have K0 : Hid (BlkL (w.alloc (.cells #[.nilIface] 83)) w.heap.size [.nilIface]) := Lib.hid (blkL_at w #[.nilIface] _ rfl)
  have hlt : B3 < w.heap.size := l3.1
  have HC := Lib.hid (i_rdAir1_yes B1 B2 B3 s W _ hs (hE.below b0) (hT.below b0) (hM.below b0) h (l1.below b0) (l2.below b0) (l3.below b0) (below_of hW hW.size b0) hB)
  have LT := Lib.hid hlt
  have HW := Lib.hid hW.size
  clear hs hE hT hM h l1 l2 l3 hW hB hlt b0
  generalize n4 s 0 = x0 at HC ⊢
  generalize n4 s 1 = x1 at HC ⊢
  generalize n4 s 2 = x2 at HC ⊢
  generalize n4 s 3 = x3 at HC ⊢
  go_enter_defers Tryz.func59, Tryz.ntmps59
  go_wp2_with fail
  refine HC.out.mono ?_
  rintro e w1 ⟨rfl, hx, hk, hb⟩
  have K1 := Lib.hid (hk w.heap.size _ (by simp) (Nat.ne_of_gt LT.out) K0.out)
  have X1 := Lib.hid hx
  have KK := Lib.hid hk
  have BB := Lib.hid hb
  clear hx hk hb HC
  obtain ⟨k, f⟩ := K1.out.2 0 _ rfl
  go_wp2
  refine leaves_cons (f := 96) (args := #[.pointer (some ⟨w.heap.size, 0, none⟩)]) (by simp) (by simp [go_sem]) ?_
  refine (att_idle ⟨w.heap.size, 0, none⟩ _).mono ?_
  rintro e u' w'' ⟨rfl, rfl, rfl⟩
  have kc : (w1.setCell ⟨w.heap.size, 0, none⟩ .nilIface).cell? ⟨w.heap.size, 0, none⟩ = some .nilIface := World.cell?_setCell_same _ _ _ k
  simp [Leaves, settle, results, Tryz.results59, go_sem, kc]
  exact ⟨X1.out.setCell (Nat.ne_of_gt LT.out) _, fun B vs hB hne hv => (KK.out B vs (by simp; omega) hne (hv.below HB0.out)).setCell (Nat.ne_of_gt hB) _, BB.out.setCell HW.out _⟩
theorem i_attAir_no (B1 B2 B3 : Nat) (s : ByteArray) (pv : Value) (w : World) (hs : s.size ≤ 1048576) (hE : EV w) (hT : T64 w) (hM : ML w) (hV : EMv pv w) (h : fourO s = false)
    (l1 : BlkL w B1 [.func (.func 32) #[] #[]]) (l2 : BlkL w B2 [.string s]) :
    Calls Tryz.prog 59 #[.func (.func 60) #[] #[.pointer (some ⟨B1, 0, none⟩), .pointer (some ⟨B2, 0, none⟩), .pointer (some ⟨B3, 0, none⟩)]] w fun e w' => e = .returned (.iface 189 pv) ∧ Below w.heap.size w w' := by
  have hmf : ∀ (fn : Fn) (first cap : Array Value) (w : World), (Instr.makeFunc fn first cap).run Tryz.prog w = .ok (.func fn first cap) w := fun _ _ _ _ => rfl
  have b0 : Below w.heap.size w (w.alloc (.cells #[.nilIface] 83)) := (Below.refl _ _).alloc (Nat.le_refl _) _
  have HB0 := Lib.hid b0
  have K0 : Hid (BlkL (w.alloc (.cells #[.nilIface] 83)) w.heap.size [.nilIface]) := Lib.hid (blkL_at w #[.nilIface] _ rfl)
  have HC := Lib.hid (i_rdAir1_no B1 B2 B3 s pv _ hs (hE.below b0) (hT.below b0) (hM.below b0) (hV.below b0) h (l1.below b0) (l2.below b0))
  clear hs hE hT hM h hV l1 l2 b0
  go_enter_defers Tryz.func59, Tryz.ntmps59
  go_wp2_with fail
  refine HC.out.mono ?_
  rintro e w1 ⟨rfl, hb⟩
  have K1 := Lib.hid (K0.out.below hb)
  have BB := Lib.hid hb
  clear hb HC
  obtain ⟨k, f⟩ := K1.out.2 0 _ rfl
  go_wp2
  refine leaves_cons (f := 96) (args := #[.pointer (some ⟨w.heap.size, 0, none⟩)]) (by simp) (by simp [go_sem]) ?_
  refine (att_panic ⟨w.heap.size, 0, none⟩ pv [] _ k f).mono ?_
  rintro e u' w'' ⟨rfl, rfl, rfl⟩
  have kc : (w1.setCell ⟨w.heap.size, 0, none⟩ (.iface 189 pv)).cell? ⟨w.heap.size, 0, none⟩ = some (.iface 189 pv) := World.cell?_setCell_same _ _ _ k
  simp [Leaves, settle, results, Tryz.results59, go_sem, kc]
  exact (below_of HB0.out HB0.out.size BB.out).setCell (Nat.le_refl _) _
theorem five (w : World) (v0 v1 : Value) (a2 a3 a4 : Array Value) (t0 t1 t2 t3 t4 : TypeId) :
    BlkL (((((w.alloc (.cells #[v0] t0)).alloc (.cells #[v1] t1)).alloc (.cells a2 t2)).alloc (.cells a3 t3)).alloc (.cells a4 t4)) w.heap.size [v0] ∧
    BlkL (((((w.alloc (.cells #[v0] t0)).alloc (.cells #[v1] t1)).alloc (.cells a2 t2)).alloc (.cells a3 t3)).alloc (.cells a4 t4)) (w.heap.size + 1) [v1] ∧
    BlkL (((((w.alloc (.cells #[v0] t0)).alloc (.cells #[v1] t1)).alloc (.cells a2 t2)).alloc (.cells a3 t3)).alloc (.cells a4 t4)) (w.heap.size + 2) a2.toList ∧
    BlkL (((((w.alloc (.cells #[v0] t0)).alloc (.cells #[v1] t1)).alloc (.cells a2 t2)).alloc (.cells a3 t3)).alloc (.cells a4 t4)) (w.heap.size + 3) a3.toList ∧
    BlkL (((((w.alloc (.cells #[v0] t0)).alloc (.cells #[v1] t1)).alloc (.cells a2 t2)).alloc (.cells a3 t3)).alloc (.cells a4 t4)) (w.heap.size + 4) a4.toList ∧
    Below w.heap.size w (((((w.alloc (.cells #[v0] t0)).alloc (.cells #[v1] t1)).alloc (.cells a2 t2)).alloc (.cells a3 t3)).alloc (.cells a4 t4)) := by
  have up : ∀ (w : World) (o : Obj), Below w.heap.size w (w.alloc o) := fun w o => (Below.refl _ _).alloc (Nat.le_refl _) _
  obtain ⟨w1, h1⟩ : ∃ z, z = w.alloc (.cells #[v0] t0) := ⟨_, rfl⟩
  have s1 : w1.heap.size = w.heap.size + 1 := by rw [h1]; simp
  have k1 : BlkL w1 w.heap.size [v0] := by rw [h1]; exact blkL_at w #[v0] _ rfl
  have b1 := up w (.cells #[v0] t0)
  rw [← h1] at b1 ⊢
  obtain ⟨w2, h2⟩ : ∃ z, z = w1.alloc (.cells #[v1] t1) := ⟨_, rfl⟩
  have s2 : w2.heap.size = w.heap.size + 2 := by rw [h2]; simp [s1]
  have k2 : BlkL w2 w1.heap.size [v1] := by rw [h2]; exact blkL_at w1 #[v1] _ rfl
  have b2 := up w1 (.cells #[v1] t1)
  rw [← h2] at b2 ⊢
  obtain ⟨w3, h3⟩ : ∃ z, z = w2.alloc (.cells a2 t2) := ⟨_, rfl⟩
  have s3 : w3.heap.size = w.heap.size + 3 := by rw [h3]; simp [s2]
  have k3 : BlkL w3 w2.heap.size a2.toList := by rw [h3]; exact blkL_at w2 a2 _ rfl
  have b3 := up w2 (.cells a2 t2)
  rw [← h3] at b3 ⊢
  obtain ⟨w4, h4⟩ : ∃ z, z = w3.alloc (.cells a3 t3) := ⟨_, rfl⟩
  have s4 : w4.heap.size = w.heap.size + 4 := by rw [h4]; simp [s3]
  have k4 : BlkL w4 w3.heap.size a3.toList := by rw [h4]; exact blkL_at w3 a3 _ rfl
  have b4 := up w3 (.cells a3 t3)
  rw [← h4] at b4 ⊢
  have k5 : BlkL (w4.alloc (.cells a4 t4)) w4.heap.size a4.toList := blkL_at w4 a4 _ rfl
  have b5 := up w4 (.cells a4 t4)
  rw [s1] at k2
  rw [s2] at k3
  rw [s3] at k4
  rw [s4] at k5
  refine ⟨(((k1.below b2).below b3).below b4).below b5, ((k2.below b3).below b4).below b5, (k3.below b4).below b5, k4.below b5, k5, ?_⟩
  exact below_of (below_of (below_of (below_of b1 b1.size b2) (below_of b1 b1.size b2).size b3) (by omega) b4) (by omega) b5
set_option maxHeartbeats 4000000 in
theorem i_rvAir_yes (s : ByteArray) (w : World) (hs : s.size ≤ 1048576) (hE : EV w) (hT : T64 w) (hM : ML w) (h : fourO s = true) (hv : airV (n4 s 0) (n4 s 1) (n4 s 2) (n4 s 3) = true) :
    Calls Tryz.prog 30 #[.string s, .func (.func 31) #[] #[], .func (.func 32) #[] #[]] w fun e w' => e = .returned (.tuple #[.agg #[.float .f32 (n4 s 0), .float .f32 (n4 s 1), .float .f32 (n4 s 2), .float .f32 (n4 s 3)], .bool true]) ∧ Below w.heap.size w w' := by
  have hmf : ∀ (fn : Fn) (first cap : Array Value) (w : World), (Instr.makeFunc fn first cap).run Tryz.prog w = .ok (.func fn first cap) w := fun _ _ _ _ => rfl
  obtain ⟨w5, h5⟩ : ∃ z, z = (((((w.alloc (.cells #[.string s] 9)).alloc (.cells #[.func (.func 32) #[] #[]] 58)).alloc (.cells #[.float .f32 0, .float .f32 0, .float .f32 0, .float .f32 0] 24)).alloc (.cells #[.float .f32 0, .float .f32 0, .float .f32 0, .float .f32 0] 24)).alloc (.cells #[.float .f32 0, .float .f32 0, .float .f32 0, .float .f32 0] 24)) := ⟨_, rfl⟩
  obtain ⟨k0, k1, k2, k3, k4, b5⟩ := five w (.string s) (.func (.func 32) #[] #[]) #[.float .f32 0, .float .f32 0, .float .f32 0, .float .f32 0] #[.float .f32 0, .float .f32 0, .float .f32 0, .float .f32 0] #[.float .f32 0, .float .f32 0, .float .f32 0, .float .f32 0] 9 58 24 24 24
  rw [← h5] at k0 k1 k2 k3 k4 b5
  have HC := Lib.hid (i_attAir_yes (w.heap.size + 1) w.heap.size (w.heap.size + 4) s w w5 hs (hE.below b5) (hT.below b5) (hM.below b5) h k1 k0 k4 b5 (by omega))
  have K2 := Lib.hid k2
  have K3 := Lib.hid k3
  have K4 := Lib.hid k4.1
  clear hs hE hT hM h k0 k1 k2 k3 k4 b5
  generalize n4 s 0 = x0 at HC hv ⊢
  generalize n4 s 1 = x1 at HC hv ⊢
  generalize n4 s 2 = x2 at HC hv ⊢
  generalize n4 s 3 = x3 at HC hv ⊢
  have HV := Lib.hid hv
  clear hv
  go_enter Tryz.func30, Tryz.ntmps30
  go_upto_region 2 with fail
  rw [← h5]
  clear h5
  go_wp2_with fail
  refine HC.out.mono ?_
  rintro e w6 ⟨rfl, hx, hk, hb⟩
  have X1 := Lib.hid hx
  have L2 := Lib.hid (hk _ _ (by have := K4.out; omega) (by omega) K2.out)
  have L3 := Lib.hid (hk _ _ (by have := K4.out; omega) (by omega) K3.out)
  have BB := Lib.hid hb
  clear hx hk hb HC K2 K3 K4
  obtain ⟨y0, y1, y2, y3⟩ := X1.out.four
  go_wp2_with fail
  refine (i_ValidAir x0 x1 x2 x3 _).mono ?_
  rintro e w7 ⟨rfl, b7⟩
  rw [HV.out]
  clear y0 y1 y2 y3
  have X2 := Lib.hid (X1.out.below b7)
  have M2 := Lib.hid (L2.out.below b7)
  have M3 := Lib.hid (L3.out.below b7)
  have BC := Lib.hid (below_of BB.out BB.out.size b7)
  clear b7 X1 L2 L3 BB HV
  obtain ⟨⟨f0, g0⟩, ⟨f1, g1⟩, ⟨f2, g2⟩, ⟨f3, g3⟩⟩ : (_ ∧ _) ∧ (_ ∧ _) ∧ (_ ∧ _) ∧ (_ ∧ _) := ⟨M2.out.2 0 _ rfl, M2.out.2 1 _ rfl, M2.out.2 2 _ rfl, M2.out.2 3 _ rfl⟩
  obtain ⟨y0, y1, y2, y3⟩ := X2.out.four
  go_wp2
  have R := Lib.hid (((((BC.out.setCell (p := ⟨w.heap.size + 2, 0, none⟩) (by simp) (.float .f32 x0)).setCell (p := ⟨w.heap.size + 2, 1, none⟩) (by simp) (.float .f32 x1)).setCell (p := ⟨w.heap.size + 2, 2, none⟩) (by simp) (.float .f32 x2)).setCell (p := ⟨w.heap.size + 2, 3, none⟩) (by simp) (.float .f32 x3)))
  have Q := Lib.hid ((((M2.out.set (i := 0) (by simp) (.float .f32 x0)).set (i := 1) (by simp) (.float .f32 x1)).set (i := 2) (by simp) (.float .f32 x2)).set (i := 3) (by simp) (.float .f32 x3))
  obtain ⟨c0, c1, c2, c3⟩ := Q.out.four
  refine bodyPost_ret (v := .tuple #[.agg #[.float .f32 x0, .float .f32 x1, .float .f32 x2, .float .f32 x3], .bool true]) ?_ rfl ⟨rfl, R.out⟩
  simp [results, Tryz.results30, go_sem, c0, c1, c2, c3]
set_option maxHeartbeats 4000000 in
theorem i_rvAir_inv (s : ByteArray) (w : World) (hs : s.size ≤ 1048576) (hE : EV w) (hT : T64 w) (hM : ML w) (h : fourO s = true) (hv : airV (n4 s 0) (n4 s 1) (n4 s 2) (n4 s 3) = false) :
    Calls Tryz.prog 30 #[.string s, .func (.func 31) #[] #[], .func (.func 32) #[] #[]] w fun e w' => e = .returned (.tuple #[.agg #[.float .f32 0, .float .f32 0, .float .f32 0, .float .f32 0], .bool false]) ∧ Below w.heap.size w w' := by
  have hmf : ∀ (fn : Fn) (first cap : Array Value) (w : World), (Instr.makeFunc fn first cap).run Tryz.prog w = .ok (.func fn first cap) w := fun _ _ _ _ => rfl
  obtain ⟨w5, h5⟩ : ∃ z, z = (((((w.alloc (.cells #[.string s] 9)).alloc (.cells #[.func (.func 32) #[] #[]] 58)).alloc (.cells #[.float .f32 0, .float .f32 0, .float .f32 0, .float .f32 0] 24)).alloc (.cells #[.float .f32 0, .float .f32 0, .float .f32 0, .float .f32 0] 24)).alloc (.cells #[.float .f32 0, .float .f32 0, .float .f32 0, .float .f32 0] 24)) := ⟨_, rfl⟩
  obtain ⟨k0, k1, k2, k3, k4, b5⟩ := five w (.string s) (.func (.func 32) #[] #[]) #[.float .f32 0, .float .f32 0, .float .f32 0, .float .f32 0] #[.float .f32 0, .float .f32 0, .float .f32 0, .float .f32 0] #[.float .f32 0, .float .f32 0, .float .f32 0, .float .f32 0] 9 58 24 24 24
  rw [← h5] at k0 k1 k2 k3 k4 b5
  have HC := Lib.hid (i_attAir_yes (w.heap.size + 1) w.heap.size (w.heap.size + 4) s w w5 hs (hE.below b5) (hT.below b5) (hM.below b5) h k1 k0 k4 b5 (by omega))
  have K2 := Lib.hid k2
  have K3 := Lib.hid k3
  have K4 := Lib.hid k4.1
  clear hs hE hT hM h k0 k1 k2 k3 k4 b5
  generalize n4 s 0 = x0 at HC hv ⊢
  generalize n4 s 1 = x1 at HC hv ⊢
  generalize n4 s 2 = x2 at HC hv ⊢
  generalize n4 s 3 = x3 at HC hv ⊢
  have HV := Lib.hid hv
  clear hv
  go_enter Tryz.func30, Tryz.ntmps30
  go_upto_region 2 with fail
  rw [← h5]
  clear h5
  go_wp2_with fail
  refine HC.out.mono ?_
  rintro e w6 ⟨rfl, hx, hk, hb⟩
  have X1 := Lib.hid hx
  have L2 := Lib.hid (hk _ _ (by have := K4.out; omega) (by omega) K2.out)
  have L3 := Lib.hid (hk _ _ (by have := K4.out; omega) (by omega) K3.out)
  have BB := Lib.hid hb
  clear hx hk hb HC K2 K3 K4
  obtain ⟨y0, y1, y2, y3⟩ := X1.out.four
  go_wp2_with fail
  refine (i_ValidAir x0 x1 x2 x3 _).mono ?_
  rintro e w7 ⟨rfl, b7⟩
  rw [HV.out]
  clear y0 y1 y2 y3
  have X2 := Lib.hid (X1.out.below b7)
  have M2 := Lib.hid (L2.out.below b7)
  have M3 := Lib.hid (L3.out.below b7)
  have BC := Lib.hid (below_of BB.out BB.out.size b7)
  clear b7 X1 L2 L3 BB HV
  obtain ⟨⟨f0, g0⟩, ⟨f1, g1⟩, ⟨f2, g2⟩, ⟨f3, g3⟩⟩ : (_ ∧ _) ∧ (_ ∧ _) ∧ (_ ∧ _) ∧ (_ ∧ _) := ⟨M2.out.2 0 _ rfl, M2.out.2 1 _ rfl, M2.out.2 2 _ rfl, M2.out.2 3 _ rfl⟩
  obtain ⟨y0, y1, y2, y3⟩ := M3.out.four
  go_wp2
  have R := Lib.hid (((((BC.out.setCell (p := ⟨w.heap.size + 2, 0, none⟩) (by simp) (.float .f32 0)).setCell (p := ⟨w.heap.size + 2, 1, none⟩) (by simp) (.float .f32 0)).setCell (p := ⟨w.heap.size + 2, 2, none⟩) (by simp) (.float .f32 0)).setCell (p := ⟨w.heap.size + 2, 3, none⟩) (by simp) (.float .f32 0)))
  have Q := Lib.hid ((((M2.out.set (i := 0) (by simp) (.float .f32 0)).set (i := 1) (by simp) (.float .f32 0)).set (i := 2) (by simp) (.float .f32 0)).set (i := 3) (by simp) (.float .f32 0))
  obtain ⟨c0, c1, c2, c3⟩ := Q.out.four
  refine bodyPost_ret (v := .tuple #[.agg #[.float .f32 0, .float .f32 0, .float .f32 0, .float .f32 0], .bool false]) ?_ rfl ⟨rfl, R.out⟩
  simp [results, Tryz.results30, go_sem, c0, c1, c2, c3]
set_option maxHeartbeats 4000000 in
theorem i_rvAir_no (s : ByteArray) (pv : Value) (w : World) (hs : s.size ≤ 1048576) (hE : EV w) (hT : T64 w) (hM : ML w) (hV : EMv pv w) (h : fourO s = false) :
    Calls Tryz.prog 30 #[.string s, .func (.func 31) #[] #[], .func (.func 32) #[] #[]] w fun e w' => e = .returned (.tuple #[.agg #[.float .f32 0, .float .f32 0, .float .f32 0, .float .f32 0], .bool false]) ∧ Below w.heap.size w w' := by
  have hmf : ∀ (fn : Fn) (first cap : Array Value) (w : World), (Instr.makeFunc fn first cap).run Tryz.prog w = .ok (.func fn first cap) w := fun _ _ _ _ => rfl
  obtain ⟨w5, h5⟩ : ∃ z, z = (((((w.alloc (.cells #[.string s] 9)).alloc (.cells #[.func (.func 32) #[] #[]] 58)).alloc (.cells #[.float .f32 0, .float .f32 0, .float .f32 0, .float .f32 0] 24)).alloc (.cells #[.float .f32 0, .float .f32 0, .float .f32 0, .float .f32 0] 24)).alloc (.cells #[.float .f32 0, .float .f32 0, .float .f32 0, .float .f32 0] 24)) := ⟨_, rfl⟩
  obtain ⟨k0, k1, k2, k3, k4, b5⟩ := five w (.string s) (.func (.func 32) #[] #[]) #[.float .f32 0, .float .f32 0, .float .f32 0, .float .f32 0] #[.float .f32 0, .float .f32 0, .float .f32 0, .float .f32 0] #[.float .f32 0, .float .f32 0, .float .f32 0, .float .f32 0] 9 58 24 24 24
  rw [← h5] at k0 k1 k2 k3 k4 b5
  have HC := Lib.hid (i_attAir_no (w.heap.size + 1) w.heap.size (w.heap.size + 4) s pv w5 hs (hE.below b5) (hT.below b5) (hM.below b5) (hV.below b5) h k1 k0)
  have K2 := Lib.hid k2
  have K3 := Lib.hid k3
  have B5 := Lib.hid b5
  clear hs hE hT hM h hV k0 k1 k2 k3 k4 b5
  go_enter Tryz.func30, Tryz.ntmps30
  go_upto_region 2 with fail
  rw [← h5]
  clear h5
  go_wp2_with fail
  refine HC.out.mono ?_
  rintro e w7 ⟨rfl, b7⟩
  have M2 := Lib.hid (K2.out.below b7)
  have M3 := Lib.hid (K3.out.below b7)
  have BC := Lib.hid (below_of B5.out B5.out.size b7)
  clear b7 HC K2 K3 B5
  obtain ⟨⟨f0, g0⟩, ⟨f1, g1⟩, ⟨f2, g2⟩, ⟨f3, g3⟩⟩ : (_ ∧ _) ∧ (_ ∧ _) ∧ (_ ∧ _) ∧ (_ ∧ _) := ⟨M2.out.2 0 _ rfl, M2.out.2 1 _ rfl, M2.out.2 2 _ rfl, M2.out.2 3 _ rfl⟩
  obtain ⟨y0, y1, y2, y3⟩ := M3.out.four
  go_wp2
  have R := Lib.hid (((((BC.out.setCell (p := ⟨w.heap.size + 2, 0, none⟩) (by simp) (.float .f32 0)).setCell (p := ⟨w.heap.size + 2, 1, none⟩) (by simp) (.float .f32 0)).setCell (p := ⟨w.heap.size + 2, 2, none⟩) (by simp) (.float .f32 0)).setCell (p := ⟨w.heap.size + 2, 3, none⟩) (by simp) (.float .f32 0)))
  have Q := Lib.hid ((((M2.out.set (i := 0) (by simp) (.float .f32 0)).set (i := 1) (by simp) (.float .f32 0)).set (i := 2) (by simp) (.float .f32 0)).set (i := 3) (by simp) (.float .f32 0))
  obtain ⟨c0, c1, c2, c3⟩ := Q.out.four
  refine bodyPost_ret (v := .tuple #[.agg #[.float .f32 0, .float .f32 0, .float .f32 0, .float .f32 0], .bool false]) ?_ rfl ⟨rfl, R.out⟩
  simp [results, Tryz.results30, go_sem, c0, c1, c2, c3]
theorem i_rvAir (s : ByteArray) (pv : Value) (w : World) (hs : s.size ≤ 1048576) (hE : EV w) (hT : T64 w) (hM : ML w) (hV : EMv pv w) :
    Calls Tryz.prog 30 #[.string s, .func (.func 31) #[] #[], .func (.func 32) #[] #[]] w fun e w' => e = .returned (.tuple #[.agg #[.float .f32 (raV s 0), .float .f32 (raV s 1), .float .f32 (raV s 2), .float .f32 (raV s 3)], .bool (raO s)]) ∧ Below w.heap.size w w' := by
  cases h : fourO s
  · have hr := raO_no h
    simp only [raV, hr]
    exact i_rvAir_no s pv w hs hE hT hM hV h
  · cases hv : airV (n4 s 0) (n4 s 1) (n4 s 2) (n4 s 3)
    · have hr : raO s = false := by unfold raO; rw [h, hv]; rfl
      simp only [raV, hr]
      exact i_rvAir_inv s w hs hE hT hM h hv
    · have hr : raO s = true := by unfold raO; rw [h, hv]; rfl
      simp only [raV, hr]
      exact i_rvAir_yes s w hs hE hT hM h hv
set_option maxHeartbeats 4000000 in
theorem i_ReadAir (s : ByteArray) (pv : Value) (w : World) (hs : s.size ≤ 1048576) (hE : EV w) (hT : T64 w) (hM : ML w) (hV : EMv pv w) :
    Calls Tryz.prog 9 #[.string s] w fun e w' => e = .returned (.tuple #[.agg #[.float .f32 (raV s 0), .float .f32 (raV s 1), .float .f32 (raV s 2), .float .f32 (raV s 3)], .bool (raO s)]) ∧ Below w.heap.size w w' := by
  obtain ⟨w0, hw0⟩ : ∃ z, z = w.alloc (.cells #[.float .f32 0, .float .f32 0, .float .f32 0, .float .f32 0] 24) := ⟨_, rfl⟩
  have b0 : Below w.heap.size w w0 := by rw [hw0]; exact (Below.refl _ _).alloc (Nat.le_refl _) _
  have K0 : Hid (BlkL w0 w.heap.size [.float .f32 0, .float .f32 0, .float .f32 0, .float .f32 0]) := Lib.hid (by rw [hw0]; exact blkL_at w #[.float .f32 0, .float .f32 0, .float .f32 0, .float .f32 0] _ rfl)
  have HC := Lib.hid (i_rvAir s pv w0 hs (hE.below b0) (hT.below b0) (hM.below b0) (hV.below b0))
  have B0 := Lib.hid b0
  clear hs hE hT hM hV b0
  generalize raV s 0 = x0 at HC ⊢
  generalize raV s 1 = x1 at HC ⊢
  generalize raV s 2 = x2 at HC ⊢
  generalize raV s 3 = x3 at HC ⊢
  generalize raO s = bb at HC ⊢
  go_enter Tryz.func9, Tryz.ntmps9
  go_upto_region 1 with fail
  rw [← hw0]
  clear hw0
  go_wp2_with fail
  refine HC.out.mono ?_
  rintro e w1 ⟨rfl, b1⟩
  have K1 := Lib.hid (K0.out.below b1)
  have BB := Lib.hid (below_of B0.out B0.out.size b1)
  clear b1 K0 B0 HC
  obtain ⟨⟨f0, g0⟩, ⟨f1, g1⟩, ⟨f2, g2⟩, ⟨f3, g3⟩⟩ : (_ ∧ _) ∧ (_ ∧ _) ∧ (_ ∧ _) ∧ (_ ∧ _) := ⟨K1.out.2 0 _ rfl, K1.out.2 1 _ rfl, K1.out.2 2 _ rfl, K1.out.2 3 _ rfl⟩
  go_wp2
  have R := Lib.hid (((((BB.out.setCell (p := ⟨w.heap.size, 0, none⟩) (by simp) (.float .f32 x0)).setCell (p := ⟨w.heap.size, 1, none⟩) (by simp) (.float .f32 x1)).setCell (p := ⟨w.heap.size, 2, none⟩) (by simp) (.float .f32 x2)).setCell (p := ⟨w.heap.size, 3, none⟩) (by simp) (.float .f32 x3)))
  have Q := Lib.hid ((((K1.out.set (i := 0) (by simp) (.float .f32 x0)).set (i := 1) (by simp) (.float .f32 x1)).set (i := 2) (by simp) (.float .f32 x2)).set (i := 3) (by simp) (.float .f32 x3))
  obtain ⟨c0, c1, c2, c3⟩ := Q.out.four
  refine bodyPost_ret (v := .tuple #[.agg #[.float .f32 x0, .float .f32 x1, .float .f32 x2, .float .f32 x3], .bool bb]) ?_ rfl ⟨rfl, R.out⟩
  simp [results, Tryz.results9, go_sem, c0, c1, c2, c3]
end Go.Proofs.YtoadccmkcjnjmaaGreatDoor
