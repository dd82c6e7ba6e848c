/- Copies of desks. No statement is proved here. -/
import Derived.Test.YtiiiigldpbomkaaDsk
import Derived.Deep.MidRow
import Derived.Deep.Cut
namespace Go.Proofs.Ytiiiigldpbomkaa
open Go Go.RowKit
theorem results_cell1 {P : Program} {fn : Func} {p : Tmp} {ty : TypeId} (h : fn.results = #[.cell p ty]) (tmps : Array Value) (w : World) :
    (results fn tmps).run P w = ((asAddr (tmps.getD p undef)).run P w).andThen fun a w₁ => (loadVar ty a).run P w₁ := by
  simp [results, h, Sem.run_bind, Result.andThen]
theorem setCells_keep {Q : World → Prop} {B : Nat} (hq : ∀ W j v, Q W → Q (W.setCell ⟨B, j, none⟩ v)) : ∀ (vs : List Value) (o : Nat) (W : World), Q W → Q (W.setCells B o vs) := by
  intro vs
  induction vs with
  | nil => intro o W h; exact h
  | cons v vs ih => intro o W h; exact ih _ _ (hq W o v h)
/-- a whole row written anew -/
theorem blk28 (W : World) (B : Nat) (u0 u1 u2 u3 u4 u5 u6 u7 u8 u9 u10 u11 u12 u13 u14 u15 u16 u17 u18 u19 u20 u21 u22 u23 u24 u25 u26 u27 z0 z1 z2 z3 z4 z5 z6 z7 z8 z9 z10 z11 z12 z13 z14 z15 z16 z17 z18 z19 z20 z21 z22 z23 z24 z25 z26 z27 : Value) (h : BlkL W B [u0, u1, u2, u3, u4, u5, u6, u7, u8, u9, u10, u11, u12, u13, u14, u15, u16, u17, u18, u19, u20, u21, u22, u23, u24, u25, u26, u27]) : BlkL ((((((((((((((((((((((((((((W.setCell ⟨B, 0, none⟩ z0).setCell ⟨B, 1, none⟩ z1).setCell ⟨B, 2, none⟩ z2).setCell ⟨B, 3, none⟩ z3).setCell ⟨B, 4, none⟩ z4).setCell ⟨B, 5, none⟩ z5).setCell ⟨B, 6, none⟩ z6).setCell ⟨B, 7, none⟩ z7).setCell ⟨B, 8, none⟩ z8).setCell ⟨B, 9, none⟩ z9).setCell ⟨B, 10, none⟩ z10).setCell ⟨B, 11, none⟩ z11).setCell ⟨B, 12, none⟩ z12).setCell ⟨B, 13, none⟩ z13).setCell ⟨B, 14, none⟩ z14).setCell ⟨B, 15, none⟩ z15).setCell ⟨B, 16, none⟩ z16).setCell ⟨B, 17, none⟩ z17).setCell ⟨B, 18, none⟩ z18).setCell ⟨B, 19, none⟩ z19).setCell ⟨B, 20, none⟩ z20).setCell ⟨B, 21, none⟩ z21).setCell ⟨B, 22, none⟩ z22).setCell ⟨B, 23, none⟩ z23).setCell ⟨B, 24, none⟩ z24).setCell ⟨B, 25, none⟩ z25).setCell ⟨B, 26, none⟩ z26).setCell ⟨B, 27, none⟩ z27) B [z0, z1, z2, z3, z4, z5, z6, z7, z8, z9, z10, z11, z12, z13, z14, z15, z16, z17, z18, z19, z20, z21, z22, z23, z24, z25, z26, z27] := by
  have z := ((((((((((((((((((((((((((((h.set (i := 0) (by simp) z0).set (i := 1) (by simp) z1).set (i := 2) (by simp) z2).set (i := 3) (by simp) z3).set (i := 4) (by simp) z4).set (i := 5) (by simp) z5).set (i := 6) (by simp) z6).set (i := 7) (by simp) z7).set (i := 8) (by simp) z8).set (i := 9) (by simp) z9).set (i := 10) (by simp) z10).set (i := 11) (by simp) z11).set (i := 12) (by simp) z12).set (i := 13) (by simp) z13).set (i := 14) (by simp) z14).set (i := 15) (by simp) z15).set (i := 16) (by simp) z16).set (i := 17) (by simp) z17).set (i := 18) (by simp) z18).set (i := 19) (by simp) z19).set (i := 20) (by simp) z20).set (i := 21) (by simp) z21).set (i := 22) (by simp) z22).set (i := 23) (by simp) z23).set (i := 24) (by simp) z24).set (i := 25) (by simp) z25).set (i := 26) (by simp) z26).set (i := 27) (by simp) z27)
  simp only [List.set_cons_zero, List.set_cons_succ] at z
  exact z
set_option maxHeartbeats 16000000 in
set_option maxRecDepth 100000 in
theorem l_toDesk (A L D S : Option Addr) (ca cl cd n cs : Nat) (c : Int) (hub tip : Nat) (a l d s : List Nat) (e0 e1 e2 e3 : Nat) (p0 p1 p2 p3 p4 p5 p6 p7 : Nat) (st : Int) (sp pi en : Nat) (X Y : Option Addr) (cx cy : Nat) (fx fy : List Nat) (fr fd fs : Nat) (w : World) (hr : Rt w A L D S a l d s) (hnr : FewR a l d s n) (hf : Rs w X Y fx fy) (hnf : FewS fx fy) :
    Calls Try.prog 62 #[.agg #[.slice A a.length ca, .slice L l.length cl, .slice D d.length cd, .slice S n cs, .int .i64 c, .float .f32 hub, .float .f32 tip, .float .f32 e0, .float .f32 e1, .float .f32 e2, .float .f32 e3, .float .f32 p0, .float .f32 p1, .float .f32 p2, .float .f32 p3, .float .f32 p4, .float .f32 p5, .float .f32 p6, .float .f32 p7, .int .i64 st, .float .f32 sp, .float .f32 pi, .float .f32 en, .slice X fx.length cx, .slice Y fy.length cy, .float .f32 fr, .float .f32 fd, .float .f32 fs]] w fun e w' => ∃ q1 q2 q3 q4 x1 x2, e = .returned (.agg #[.slice (some ⟨q1, 0, none⟩) a.length a.length, .slice (some ⟨q2, 0, none⟩) l.length l.length, .slice (some ⟨q3, 0, none⟩) d.length d.length, .slice (some ⟨q4, 0, none⟩) n n, .int .i64 c, .float .f32 hub, .float .f32 tip, .float .f32 e0, .float .f32 e1, .float .f32 e2, .float .f32 e3, .float .f32 p0, .float .f32 p1, .float .f32 p2, .float .f32 p3, .float .f32 p4, .float .f32 p5, .float .f32 p6, .float .f32 p7, .int .i64 st, .float .f32 sp, .float .f32 pi, .float .f32 en, .slice (some ⟨x1, 0, none⟩) fx.length fx.length, .slice (some ⟨x2, 0, none⟩) fy.length fy.length, .float .f32 fr, .float .f32 fd, .float .f32 fs]) ∧
      Rt w' (some ⟨q1, 0, none⟩) (some ⟨q2, 0, none⟩) (some ⟨q3, 0, none⟩) (some ⟨q4, 0, none⟩) a l d s ∧ Rs w' (some ⟨x1, 0, none⟩) (some ⟨x2, 0, none⟩) fx fy ∧ Below w.heap.size w w' := by
  have HR := Lib.hid hr; clear hr
  have HNR := Lib.hid hnr; clear hnr
  have HF := Lib.hid hf; clear hf
  have HNF := Lib.hid hnf; clear hnf
  obtain ⟨w0, hw0⟩ : ∃ x, x = ((w.alloc (.cells #[.slice A a.length ca, .slice L l.length cl, .slice D d.length cd, .slice S n cs, .int .i64 c, .float .f32 hub, .float .f32 tip, .float .f32 e0, .float .f32 e1, .float .f32 e2, .float .f32 e3, .float .f32 p0, .float .f32 p1, .float .f32 p2, .float .f32 p3, .float .f32 p4, .float .f32 p5, .float .f32 p6, .float .f32 p7, .int .i64 st, .float .f32 sp, .float .f32 pi, .float .f32 en, .slice X fx.length cx, .slice Y fy.length cy, .float .f32 fr, .float .f32 fd, .float .f32 fs] 95)).alloc (.cells #[.slice none 0 0, .slice none 0 0, .slice none 0 0, .slice none 0 0, .int .i64 0, .float .f32 0, .float .f32 0, .float .f32 0, .float .f32 0, .float .f32 0, .float .f32 0, .float .f32 0, .float .f32 0, .float .f32 0, .float .f32 0, .float .f32 0, .float .f32 0, .float .f32 0, .float .f32 0, .int .i64 0, .float .f32 0, .float .f32 0, .float .f32 0, .slice none 0 0, .slice none 0 0, .float .f32 0, .float .f32 0, .float .f32 0] 102)).alloc (.cells #[.slice none 0 0, .slice none 0 0, .slice none 0 0, .slice none 0 0, .int .i64 0, .float .f32 0, .float .f32 0, .float .f32 0, .float .f32 0, .float .f32 0, .float .f32 0, .float .f32 0, .float .f32 0, .float .f32 0, .float .f32 0, .float .f32 0, .float .f32 0, .float .f32 0, .float .f32 0, .int .i64 0, .float .f32 0, .float .f32 0, .float .f32 0, .slice none 0 0, .slice none 0 0, .float .f32 0, .float .f32 0, .float .f32 0] 102) := ⟨_, rfl⟩
  have B0 : Hid (Below w.heap.size w w0) := Lib.hid (by rw [hw0]; exact (((Below.refl _ _).alloc (Nat.le_refl _) _).alloc (by simp) _).alloc (by simp <;> omega) _)
  have S0 : Hid (w0.heap.size = w.heap.size + 3) := Lib.hid (by rw [hw0]; simp)
  have K0 : Hid (BlkL w0 w.heap.size [.slice A a.length ca, .slice L l.length cl, .slice D d.length cd, .slice S n cs, .int .i64 c, .float .f32 hub, .float .f32 tip, .float .f32 e0, .float .f32 e1, .float .f32 e2, .float .f32 e3, .float .f32 p0, .float .f32 p1, .float .f32 p2, .float .f32 p3, .float .f32 p4, .float .f32 p5, .float .f32 p6, .float .f32 p7, .int .i64 st, .float .f32 sp, .float .f32 pi, .float .f32 en, .slice X fx.length cx, .slice Y fy.length cy, .float .f32 fr, .float .f32 fd, .float .f32 fs]) := Lib.hid (by rw [hw0]; exact ((blkL_at w #[.slice A a.length ca, .slice L l.length cl, .slice D d.length cd, .slice S n cs, .int .i64 c, .float .f32 hub, .float .f32 tip, .float .f32 e0, .float .f32 e1, .float .f32 e2, .float .f32 e3, .float .f32 p0, .float .f32 p1, .float .f32 p2, .float .f32 p3, .float .f32 p4, .float .f32 p5, .float .f32 p6, .float .f32 p7, .int .i64 st, .float .f32 sp, .float .f32 pi, .float .f32 en, .slice X fx.length cx, .slice Y fy.length cy, .float .f32 fr, .float .f32 fd, .float .f32 fs] _ rfl).alloc _).alloc _)
  have G0 : Hid (BlkL w0 (w.heap.size + 1) [.slice none 0 0, .slice none 0 0, .slice none 0 0, .slice none 0 0, .int .i64 0, .float .f32 0, .float .f32 0, .float .f32 0, .float .f32 0, .float .f32 0, .float .f32 0, .float .f32 0, .float .f32 0, .float .f32 0, .float .f32 0, .float .f32 0, .float .f32 0, .float .f32 0, .float .f32 0, .int .i64 0, .float .f32 0, .float .f32 0, .float .f32 0, .slice none 0 0, .slice none 0 0, .float .f32 0, .float .f32 0, .float .f32 0]) := Lib.hid (by rw [hw0]; exact (blkL_at (w.alloc _) #[.slice none 0 0, .slice none 0 0, .slice none 0 0, .slice none 0 0, .int .i64 0, .float .f32 0, .float .f32 0, .float .f32 0, .float .f32 0, .float .f32 0, .float .f32 0, .float .f32 0, .float .f32 0, .float .f32 0, .float .f32 0, .float .f32 0, .float .f32 0, .float .f32 0, .float .f32 0, .int .i64 0, .float .f32 0, .float .f32 0, .float .f32 0, .slice none 0 0, .slice none 0 0, .float .f32 0, .float .f32 0, .float .f32 0] _ (by simp)).alloc _)
  have O0 : Hid (BlkL w0 (w.heap.size + 1 + 1) [.slice none 0 0, .slice none 0 0, .slice none 0 0, .slice none 0 0, .int .i64 0, .float .f32 0, .float .f32 0, .float .f32 0, .float .f32 0, .float .f32 0, .float .f32 0, .float .f32 0, .float .f32 0, .float .f32 0, .float .f32 0, .float .f32 0, .float .f32 0, .float .f32 0, .float .f32 0, .int .i64 0, .float .f32 0, .float .f32 0, .float .f32 0, .slice none 0 0, .slice none 0 0, .float .f32 0, .float .f32 0, .float .f32 0]) := Lib.hid (by rw [hw0]; exact blkL_at ((w.alloc _).alloc _) #[.slice none 0 0, .slice none 0 0, .slice none 0 0, .slice none 0 0, .int .i64 0, .float .f32 0, .float .f32 0, .float .f32 0, .float .f32 0, .float .f32 0, .float .f32 0, .float .f32 0, .float .f32 0, .float .f32 0, .float .f32 0, .float .f32 0, .float .f32 0, .float .f32 0, .float .f32 0, .int .i64 0, .float .f32 0, .float .f32 0, .float .f32 0, .slice none 0 0, .slice none 0 0, .float .f32 0, .float .f32 0, .float .f32 0] _ (by simp))
  have hb0 : w.heap.size ≤ w.heap.size + 1 + 1 := by omega
  have n0 : (w.heap.size + 1 + 1) ≠ w.heap.size := by omega
  have n1 : (w.heap.size + 1 + 1) ≠ w.heap.size + 1 := by omega
  go_enter Try.func62, Try.ntmps62
  go_wp2_with fail
  rw [← hw0]
  clear hw0
  have k0 := (K0.out.2 0 _ rfl).1
  have k1 := (K0.out.2 1 _ rfl).1
  have k2 := (K0.out.2 2 _ rfl).1
  have k3 := (K0.out.2 3 _ rfl).1
  have k4 := (K0.out.2 4 _ rfl).1
  have k5 := (K0.out.2 5 _ rfl).1
  have k6 := (K0.out.2 6 _ rfl).1
  go_wp2_with fail
  refine (l_toRotor A L D S ca cl cd n cs c hub tip a l d s _ (HR.out.below B0.out) HNR.out).mono ?_
  rintro e w1 ⟨q1, q2, q3, q4, rfl, ho, b⟩
  have RO1 := Lib.hid ho; clear ho
  have B1 : Hid (Below w.heap.size w w1) := Lib.hid (below_of B0.out B0.out.size b)
  have Z1 : Hid (w0.heap.size ≤ w1.heap.size) := Lib.hid b.size
  have K1 := Lib.hid (K0.out.below b)
  have G1 := Lib.hid (G0.out.below b)
  have O1 := Lib.hid (O0.out.below b)
  clear b K0 G0 O0
  clear k0 k1 k2 k3 k4 k5 k6
  obtain ⟨o0, of0⟩ := O1.out.2 0 _ rfl
  obtain ⟨o1, of1⟩ := O1.out.2 1 _ rfl
  obtain ⟨o2, of2⟩ := O1.out.2 2 _ rfl
  obtain ⟨o3, of3⟩ := O1.out.2 3 _ rfl
  obtain ⟨o4, of4⟩ := O1.out.2 4 _ rfl
  obtain ⟨o5, of5⟩ := O1.out.2 5 _ rfl
  obtain ⟨o6, of6⟩ := O1.out.2 6 _ rfl
  have k7 := (K1.out.2 7 _ rfl).1
  have k8 := (K1.out.2 8 _ rfl).1
  have k9 := (K1.out.2 9 _ rfl).1
  have k10 := (K1.out.2 10 _ rfl).1
  go_wp2_with fail
  refine (l_toAir e0 e1 e2 e3 _).mono ?_
  rintro e w2 ⟨rfl, b⟩
  have B2 : Hid (Below w.heap.size w w2) := Lib.hid (below_of (((((((B1.out.setCell (p := ⟨w.heap.size + 1 + 1, 0, none⟩) hb0 _).setCell (p := ⟨w.heap.size + 1 + 1, 1, none⟩) hb0 _).setCell (p := ⟨w.heap.size + 1 + 1, 2, none⟩) hb0 _).setCell (p := ⟨w.heap.size + 1 + 1, 3, none⟩) hb0 _).setCell (p := ⟨w.heap.size + 1 + 1, 4, none⟩) hb0 _).setCell (p := ⟨w.heap.size + 1 + 1, 5, none⟩) hb0 _).setCell (p := ⟨w.heap.size + 1 + 1, 6, none⟩) hb0 _) (((((((B1.out.setCell (p := ⟨w.heap.size + 1 + 1, 0, none⟩) hb0 _).setCell (p := ⟨w.heap.size + 1 + 1, 1, none⟩) hb0 _).setCell (p := ⟨w.heap.size + 1 + 1, 2, none⟩) hb0 _).setCell (p := ⟨w.heap.size + 1 + 1, 3, none⟩) hb0 _).setCell (p := ⟨w.heap.size + 1 + 1, 4, none⟩) hb0 _).setCell (p := ⟨w.heap.size + 1 + 1, 5, none⟩) hb0 _).setCell (p := ⟨w.heap.size + 1 + 1, 6, none⟩) hb0 _).size b)
  have Z2 : Hid (w1.heap.size ≤ w2.heap.size) := Lib.hid (by have := b.size; simpa using this)
  have K2 : Hid (BlkL w2 w.heap.size [.slice A a.length ca, .slice L l.length cl, .slice D d.length cd, .slice S n cs, .int .i64 c, .float .f32 hub, .float .f32 tip, .float .f32 e0, .float .f32 e1, .float .f32 e2, .float .f32 e3, .float .f32 p0, .float .f32 p1, .float .f32 p2, .float .f32 p3, .float .f32 p4, .float .f32 p5, .float .f32 p6, .float .f32 p7, .int .i64 st, .float .f32 sp, .float .f32 pi, .float .f32 en, .slice X fx.length cx, .slice Y fy.length cy, .float .f32 fr, .float .f32 fd, .float .f32 fs]) := Lib.hid ((((((((K1.out.other (p := ⟨_, 0, none⟩) n0 _).other (p := ⟨_, 1, none⟩) n0 _).other (p := ⟨_, 2, none⟩) n0 _).other (p := ⟨_, 3, none⟩) n0 _).other (p := ⟨_, 4, none⟩) n0 _).other (p := ⟨_, 5, none⟩) n0 _).other (p := ⟨_, 6, none⟩) n0 _).below b)
  have G2 : Hid (BlkL w2 (w.heap.size + 1) [.slice none 0 0, .slice none 0 0, .slice none 0 0, .slice none 0 0, .int .i64 0, .float .f32 0, .float .f32 0, .float .f32 0, .float .f32 0, .float .f32 0, .float .f32 0, .float .f32 0, .float .f32 0, .float .f32 0, .float .f32 0, .float .f32 0, .float .f32 0, .float .f32 0, .float .f32 0, .int .i64 0, .float .f32 0, .float .f32 0, .float .f32 0, .slice none 0 0, .slice none 0 0, .float .f32 0, .float .f32 0, .float .f32 0]) := Lib.hid ((((((((G1.out.other (p := ⟨_, 0, none⟩) n1 _).other (p := ⟨_, 1, none⟩) n1 _).other (p := ⟨_, 2, none⟩) n1 _).other (p := ⟨_, 3, none⟩) n1 _).other (p := ⟨_, 4, none⟩) n1 _).other (p := ⟨_, 5, none⟩) n1 _).other (p := ⟨_, 6, none⟩) n1 _).below b)
  have O2 : Hid (BlkL w2 (w.heap.size + 1 + 1) [.slice (some ⟨q1, 0, none⟩) a.length a.length, .slice (some ⟨q2, 0, none⟩) l.length l.length, .slice (some ⟨q3, 0, none⟩) d.length d.length, .slice (some ⟨q4, 0, none⟩) n n, .int .i64 c, .float .f32 hub, .float .f32 tip, .float .f32 0, .float .f32 0, .float .f32 0, .float .f32 0, .float .f32 0, .float .f32 0, .float .f32 0, .float .f32 0, .float .f32 0, .float .f32 0, .float .f32 0, .float .f32 0, .int .i64 0, .float .f32 0, .float .f32 0, .float .f32 0, .slice none 0 0, .slice none 0 0, .float .f32 0, .float .f32 0, .float .f32 0]) := Lib.hid ((((((((O1.out.set (i := 0) (by simp) _).set (i := 1) (by simp) _).set (i := 2) (by simp) _).set (i := 3) (by simp) _).set (i := 4) (by simp) _).set (i := 5) (by simp) _).set (i := 6) (by simp) _).below b)
  have RO2 : Hid (OwnR w2 w0.heap.size q1 q2 q3 q4 a l d s) := Lib.hid ((OwnR.setCell (OwnR.setCell (OwnR.setCell (OwnR.setCell (OwnR.setCell (OwnR.setCell (OwnR.setCell RO1.out (p := ⟨w.heap.size + 1 + 1, 0, none⟩) (by show w.heap.size + 1 + 1 < _; rw [S0.out]; omega) _) (p := ⟨w.heap.size + 1 + 1, 1, none⟩) (by show w.heap.size + 1 + 1 < _; rw [S0.out]; omega) _) (p := ⟨w.heap.size + 1 + 1, 2, none⟩) (by show w.heap.size + 1 + 1 < _; rw [S0.out]; omega) _) (p := ⟨w.heap.size + 1 + 1, 3, none⟩) (by show w.heap.size + 1 + 1 < _; rw [S0.out]; omega) _) (p := ⟨w.heap.size + 1 + 1, 4, none⟩) (by show w.heap.size + 1 + 1 < _; rw [S0.out]; omega) _) (p := ⟨w.heap.size + 1 + 1, 5, none⟩) (by show w.heap.size + 1 + 1 < _; rw [S0.out]; omega) _) (p := ⟨w.heap.size + 1 + 1, 6, none⟩) (by show w.heap.size + 1 + 1 < _; rw [S0.out]; omega) _).below b)
  clear b K1 G1 O1 RO1
  clear o0 of0 o1 of1 o2 of2 o3 of3 o4 of4 o5 of5 o6 of6
  clear k7 k8 k9 k10
  obtain ⟨o7, of7⟩ := O2.out.2 7 _ rfl
  obtain ⟨o8, of8⟩ := O2.out.2 8 _ rfl
  obtain ⟨o9, of9⟩ := O2.out.2 9 _ rfl
  obtain ⟨o10, of10⟩ := O2.out.2 10 _ rfl
  have k11 := (K2.out.2 11 _ rfl).1
  have k12 := (K2.out.2 12 _ rfl).1
  have k13 := (K2.out.2 13 _ rfl).1
  have k14 := (K2.out.2 14 _ rfl).1
  have k15 := (K2.out.2 15 _ rfl).1
  have k16 := (K2.out.2 16 _ rfl).1
  have k17 := (K2.out.2 17 _ rfl).1
  have k18 := (K2.out.2 18 _ rfl).1
  have k19 := (K2.out.2 19 _ rfl).1
  have k20 := (K2.out.2 20 _ rfl).1
  have k21 := (K2.out.2 21 _ rfl).1
  have k22 := (K2.out.2 22 _ rfl).1
  go_wp2_with fail
  refine (l_toDrive p0 p1 p2 p3 p4 p5 p6 p7 st sp pi en _).mono ?_
  rintro e w3 ⟨rfl, b⟩
  have B3 : Hid (Below w.heap.size w w3) := Lib.hid (below_of ((((B2.out.setCell (p := ⟨w.heap.size + 1 + 1, 7, none⟩) hb0 _).setCell (p := ⟨w.heap.size + 1 + 1, 8, none⟩) hb0 _).setCell (p := ⟨w.heap.size + 1 + 1, 9, none⟩) hb0 _).setCell (p := ⟨w.heap.size + 1 + 1, 10, none⟩) hb0 _) ((((B2.out.setCell (p := ⟨w.heap.size + 1 + 1, 7, none⟩) hb0 _).setCell (p := ⟨w.heap.size + 1 + 1, 8, none⟩) hb0 _).setCell (p := ⟨w.heap.size + 1 + 1, 9, none⟩) hb0 _).setCell (p := ⟨w.heap.size + 1 + 1, 10, none⟩) hb0 _).size b)
  have Z3 : Hid (w2.heap.size ≤ w3.heap.size) := Lib.hid (by have := b.size; simpa using this)
  have K3 : Hid (BlkL w3 w.heap.size [.slice A a.length ca, .slice L l.length cl, .slice D d.length cd, .slice S n cs, .int .i64 c, .float .f32 hub, .float .f32 tip, .float .f32 e0, .float .f32 e1, .float .f32 e2, .float .f32 e3, .float .f32 p0, .float .f32 p1, .float .f32 p2, .float .f32 p3, .float .f32 p4, .float .f32 p5, .float .f32 p6, .float .f32 p7, .int .i64 st, .float .f32 sp, .float .f32 pi, .float .f32 en, .slice X fx.length cx, .slice Y fy.length cy, .float .f32 fr, .float .f32 fd, .float .f32 fs]) := Lib.hid (((((K2.out.other (p := ⟨_, 7, none⟩) n0 _).other (p := ⟨_, 8, none⟩) n0 _).other (p := ⟨_, 9, none⟩) n0 _).other (p := ⟨_, 10, none⟩) n0 _).below b)
  have G3 : Hid (BlkL w3 (w.heap.size + 1) [.slice none 0 0, .slice none 0 0, .slice none 0 0, .slice none 0 0, .int .i64 0, .float .f32 0, .float .f32 0, .float .f32 0, .float .f32 0, .float .f32 0, .float .f32 0, .float .f32 0, .float .f32 0, .float .f32 0, .float .f32 0, .float .f32 0, .float .f32 0, .float .f32 0, .float .f32 0, .int .i64 0, .float .f32 0, .float .f32 0, .float .f32 0, .slice none 0 0, .slice none 0 0, .float .f32 0, .float .f32 0, .float .f32 0]) := Lib.hid (((((G2.out.other (p := ⟨_, 7, none⟩) n1 _).other (p := ⟨_, 8, none⟩) n1 _).other (p := ⟨_, 9, none⟩) n1 _).other (p := ⟨_, 10, none⟩) n1 _).below b)
  have O3 : Hid (BlkL w3 (w.heap.size + 1 + 1) [.slice (some ⟨q1, 0, none⟩) a.length a.length, .slice (some ⟨q2, 0, none⟩) l.length l.length, .slice (some ⟨q3, 0, none⟩) d.length d.length, .slice (some ⟨q4, 0, none⟩) n n, .int .i64 c, .float .f32 hub, .float .f32 tip, .float .f32 e0, .float .f32 e1, .float .f32 e2, .float .f32 e3, .float .f32 0, .float .f32 0, .float .f32 0, .float .f32 0, .float .f32 0, .float .f32 0, .float .f32 0, .float .f32 0, .int .i64 0, .float .f32 0, .float .f32 0, .float .f32 0, .slice none 0 0, .slice none 0 0, .float .f32 0, .float .f32 0, .float .f32 0]) := Lib.hid (((((O2.out.set (i := 7) (by simp) _).set (i := 8) (by simp) _).set (i := 9) (by simp) _).set (i := 10) (by simp) _).below b)
  have RO3 : Hid (OwnR w3 w0.heap.size q1 q2 q3 q4 a l d s) := Lib.hid ((OwnR.setCell (OwnR.setCell (OwnR.setCell (OwnR.setCell RO2.out (p := ⟨w.heap.size + 1 + 1, 7, none⟩) (by show w.heap.size + 1 + 1 < _; rw [S0.out]; omega) _) (p := ⟨w.heap.size + 1 + 1, 8, none⟩) (by show w.heap.size + 1 + 1 < _; rw [S0.out]; omega) _) (p := ⟨w.heap.size + 1 + 1, 9, none⟩) (by show w.heap.size + 1 + 1 < _; rw [S0.out]; omega) _) (p := ⟨w.heap.size + 1 + 1, 10, none⟩) (by show w.heap.size + 1 + 1 < _; rw [S0.out]; omega) _).below b)
  clear b K2 G2 O2 RO2
  clear o7 of7 o8 of8 o9 of9 o10 of10
  clear k11 k12 k13 k14 k15 k16 k17 k18 k19 k20 k21 k22
  obtain ⟨o11, of11⟩ := O3.out.2 11 _ rfl
  obtain ⟨o12, of12⟩ := O3.out.2 12 _ rfl
  obtain ⟨o13, of13⟩ := O3.out.2 13 _ rfl
  obtain ⟨o14, of14⟩ := O3.out.2 14 _ rfl
  obtain ⟨o15, of15⟩ := O3.out.2 15 _ rfl
  obtain ⟨o16, of16⟩ := O3.out.2 16 _ rfl
  obtain ⟨o17, of17⟩ := O3.out.2 17 _ rfl
  obtain ⟨o18, of18⟩ := O3.out.2 18 _ rfl
  obtain ⟨o19, of19⟩ := O3.out.2 19 _ rfl
  obtain ⟨o20, of20⟩ := O3.out.2 20 _ rfl
  obtain ⟨o21, of21⟩ := O3.out.2 21 _ rfl
  obtain ⟨o22, of22⟩ := O3.out.2 22 _ rfl
  have k23 := (K3.out.2 23 _ rfl).1
  have k24 := (K3.out.2 24 _ rfl).1
  have k25 := (K3.out.2 25 _ rfl).1
  have k26 := (K3.out.2 26 _ rfl).1
  have k27 := (K3.out.2 27 _ rfl).1
  go_wp2_with fail
  refine (l_toFarm X Y cx cy fx fy fr fd fs _ (HF.out.below ((((((((((((B3.out.setCell (p := ⟨w.heap.size + 1 + 1, 11, none⟩) hb0 _).setCell (p := ⟨w.heap.size + 1 + 1, 12, none⟩) hb0 _).setCell (p := ⟨w.heap.size + 1 + 1, 13, none⟩) hb0 _).setCell (p := ⟨w.heap.size + 1 + 1, 14, none⟩) hb0 _).setCell (p := ⟨w.heap.size + 1 + 1, 15, none⟩) hb0 _).setCell (p := ⟨w.heap.size + 1 + 1, 16, none⟩) hb0 _).setCell (p := ⟨w.heap.size + 1 + 1, 17, none⟩) hb0 _).setCell (p := ⟨w.heap.size + 1 + 1, 18, none⟩) hb0 _).setCell (p := ⟨w.heap.size + 1 + 1, 19, none⟩) hb0 _).setCell (p := ⟨w.heap.size + 1 + 1, 20, none⟩) hb0 _).setCell (p := ⟨w.heap.size + 1 + 1, 21, none⟩) hb0 _).setCell (p := ⟨w.heap.size + 1 + 1, 22, none⟩) hb0 _)) HNF.out).mono ?_
  rintro e w4 ⟨x1, x2, he, ho, b⟩
  have B4 : Hid (Below w.heap.size w w4) := Lib.hid (below_of ((((((((((((B3.out.setCell (p := ⟨w.heap.size + 1 + 1, 11, none⟩) hb0 _).setCell (p := ⟨w.heap.size + 1 + 1, 12, none⟩) hb0 _).setCell (p := ⟨w.heap.size + 1 + 1, 13, none⟩) hb0 _).setCell (p := ⟨w.heap.size + 1 + 1, 14, none⟩) hb0 _).setCell (p := ⟨w.heap.size + 1 + 1, 15, none⟩) hb0 _).setCell (p := ⟨w.heap.size + 1 + 1, 16, none⟩) hb0 _).setCell (p := ⟨w.heap.size + 1 + 1, 17, none⟩) hb0 _).setCell (p := ⟨w.heap.size + 1 + 1, 18, none⟩) hb0 _).setCell (p := ⟨w.heap.size + 1 + 1, 19, none⟩) hb0 _).setCell (p := ⟨w.heap.size + 1 + 1, 20, none⟩) hb0 _).setCell (p := ⟨w.heap.size + 1 + 1, 21, none⟩) hb0 _).setCell (p := ⟨w.heap.size + 1 + 1, 22, none⟩) hb0 _) ((((((((((((B3.out.setCell (p := ⟨w.heap.size + 1 + 1, 11, none⟩) hb0 _).setCell (p := ⟨w.heap.size + 1 + 1, 12, none⟩) hb0 _).setCell (p := ⟨w.heap.size + 1 + 1, 13, none⟩) hb0 _).setCell (p := ⟨w.heap.size + 1 + 1, 14, none⟩) hb0 _).setCell (p := ⟨w.heap.size + 1 + 1, 15, none⟩) hb0 _).setCell (p := ⟨w.heap.size + 1 + 1, 16, none⟩) hb0 _).setCell (p := ⟨w.heap.size + 1 + 1, 17, none⟩) hb0 _).setCell (p := ⟨w.heap.size + 1 + 1, 18, none⟩) hb0 _).setCell (p := ⟨w.heap.size + 1 + 1, 19, none⟩) hb0 _).setCell (p := ⟨w.heap.size + 1 + 1, 20, none⟩) hb0 _).setCell (p := ⟨w.heap.size + 1 + 1, 21, none⟩) hb0 _).setCell (p := ⟨w.heap.size + 1 + 1, 22, none⟩) hb0 _).size b)
  have Z4 : Hid (w3.heap.size ≤ w4.heap.size) := Lib.hid (by have := b.size; simpa using this)
  have K4 : Hid (BlkL w4 w.heap.size [.slice A a.length ca, .slice L l.length cl, .slice D d.length cd, .slice S n cs, .int .i64 c, .float .f32 hub, .float .f32 tip, .float .f32 e0, .float .f32 e1, .float .f32 e2, .float .f32 e3, .float .f32 p0, .float .f32 p1, .float .f32 p2, .float .f32 p3, .float .f32 p4, .float .f32 p5, .float .f32 p6, .float .f32 p7, .int .i64 st, .float .f32 sp, .float .f32 pi, .float .f32 en, .slice X fx.length cx, .slice Y fy.length cy, .float .f32 fr, .float .f32 fd, .float .f32 fs]) := Lib.hid (((((((((((((K3.out.other (p := ⟨_, 11, none⟩) n0 _).other (p := ⟨_, 12, none⟩) n0 _).other (p := ⟨_, 13, none⟩) n0 _).other (p := ⟨_, 14, none⟩) n0 _).other (p := ⟨_, 15, none⟩) n0 _).other (p := ⟨_, 16, none⟩) n0 _).other (p := ⟨_, 17, none⟩) n0 _).other (p := ⟨_, 18, none⟩) n0 _).other (p := ⟨_, 19, none⟩) n0 _).other (p := ⟨_, 20, none⟩) n0 _).other (p := ⟨_, 21, none⟩) n0 _).other (p := ⟨_, 22, none⟩) n0 _).below b)
  have G4 : Hid (BlkL w4 (w.heap.size + 1) [.slice none 0 0, .slice none 0 0, .slice none 0 0, .slice none 0 0, .int .i64 0, .float .f32 0, .float .f32 0, .float .f32 0, .float .f32 0, .float .f32 0, .float .f32 0, .float .f32 0, .float .f32 0, .float .f32 0, .float .f32 0, .float .f32 0, .float .f32 0, .float .f32 0, .float .f32 0, .int .i64 0, .float .f32 0, .float .f32 0, .float .f32 0, .slice none 0 0, .slice none 0 0, .float .f32 0, .float .f32 0, .float .f32 0]) := Lib.hid (((((((((((((G3.out.other (p := ⟨_, 11, none⟩) n1 _).other (p := ⟨_, 12, none⟩) n1 _).other (p := ⟨_, 13, none⟩) n1 _).other (p := ⟨_, 14, none⟩) n1 _).other (p := ⟨_, 15, none⟩) n1 _).other (p := ⟨_, 16, none⟩) n1 _).other (p := ⟨_, 17, none⟩) n1 _).other (p := ⟨_, 18, none⟩) n1 _).other (p := ⟨_, 19, none⟩) n1 _).other (p := ⟨_, 20, none⟩) n1 _).other (p := ⟨_, 21, none⟩) n1 _).other (p := ⟨_, 22, none⟩) n1 _).below b)
  have O4 : Hid (BlkL w4 (w.heap.size + 1 + 1) [.slice (some ⟨q1, 0, none⟩) a.length a.length, .slice (some ⟨q2, 0, none⟩) l.length l.length, .slice (some ⟨q3, 0, none⟩) d.length d.length, .slice (some ⟨q4, 0, none⟩) n n, .int .i64 c, .float .f32 hub, .float .f32 tip, .float .f32 e0, .float .f32 e1, .float .f32 e2, .float .f32 e3, .float .f32 p0, .float .f32 p1, .float .f32 p2, .float .f32 p3, .float .f32 p4, .float .f32 p5, .float .f32 p6, .float .f32 p7, .int .i64 st, .float .f32 sp, .float .f32 pi, .float .f32 en, .slice none 0 0, .slice none 0 0, .float .f32 0, .float .f32 0, .float .f32 0]) := Lib.hid (((((((((((((O3.out.set (i := 11) (by simp) _).set (i := 12) (by simp) _).set (i := 13) (by simp) _).set (i := 14) (by simp) _).set (i := 15) (by simp) _).set (i := 16) (by simp) _).set (i := 17) (by simp) _).set (i := 18) (by simp) _).set (i := 19) (by simp) _).set (i := 20) (by simp) _).set (i := 21) (by simp) _).set (i := 22) (by simp) _).below b)
  have RO4 : Hid (OwnR w4 w0.heap.size q1 q2 q3 q4 a l d s) := Lib.hid ((OwnR.setCell (OwnR.setCell (OwnR.setCell (OwnR.setCell (OwnR.setCell (OwnR.setCell (OwnR.setCell (OwnR.setCell (OwnR.setCell (OwnR.setCell (OwnR.setCell (OwnR.setCell RO3.out (p := ⟨w.heap.size + 1 + 1, 11, none⟩) (by show w.heap.size + 1 + 1 < _; rw [S0.out]; omega) _) (p := ⟨w.heap.size + 1 + 1, 12, none⟩) (by show w.heap.size + 1 + 1 < _; rw [S0.out]; omega) _) (p := ⟨w.heap.size + 1 + 1, 13, none⟩) (by show w.heap.size + 1 + 1 < _; rw [S0.out]; omega) _) (p := ⟨w.heap.size + 1 + 1, 14, none⟩) (by show w.heap.size + 1 + 1 < _; rw [S0.out]; omega) _) (p := ⟨w.heap.size + 1 + 1, 15, none⟩) (by show w.heap.size + 1 + 1 < _; rw [S0.out]; omega) _) (p := ⟨w.heap.size + 1 + 1, 16, none⟩) (by show w.heap.size + 1 + 1 < _; rw [S0.out]; omega) _) (p := ⟨w.heap.size + 1 + 1, 17, none⟩) (by show w.heap.size + 1 + 1 < _; rw [S0.out]; omega) _) (p := ⟨w.heap.size + 1 + 1, 18, none⟩) (by show w.heap.size + 1 + 1 < _; rw [S0.out]; omega) _) (p := ⟨w.heap.size + 1 + 1, 19, none⟩) (by show w.heap.size + 1 + 1 < _; rw [S0.out]; omega) _) (p := ⟨w.heap.size + 1 + 1, 20, none⟩) (by show w.heap.size + 1 + 1 < _; rw [S0.out]; omega) _) (p := ⟨w.heap.size + 1 + 1, 21, none⟩) (by show w.heap.size + 1 + 1 < _; rw [S0.out]; omega) _) (p := ⟨w.heap.size + 1 + 1, 22, none⟩) (by show w.heap.size + 1 + 1 < _; rw [S0.out]; omega) _).below b)
  have FO : Hid (OwnS w4 w3.heap.size x1 x2 fx fy) := Lib.hid (by simpa using ho)
  clear ho
  clear b K3 G3 O3 RO3
  clear o11 of11 o12 of12 o13 of13 o14 of14 o15 of15 o16 of16 o17 of17 o18 of18 o19 of19 o20 of20 o21 of21 o22 of22
  clear k23 k24 k25 k26 k27
  subst he
  obtain ⟨o23, of23⟩ := O4.out.2 23 _ rfl
  obtain ⟨o24, of24⟩ := O4.out.2 24 _ rfl
  obtain ⟨o25, of25⟩ := O4.out.2 25 _ rfl
  obtain ⟨o26, of26⟩ := O4.out.2 26 _ rfl
  obtain ⟨o27, of27⟩ := O4.out.2 27 _ rfl
  go_upto_region 6 with fail
  clear o23 of23 o24 of24 o25 of25 o26 of26 o27 of27
  have G5 := (((((G4.out.other (p := ⟨w.heap.size + 1 + 1, 23, none⟩) n1 (.slice (some ⟨x1, 0, none⟩) fx.length fx.length)).other (p := ⟨w.heap.size + 1 + 1, 24, none⟩) n1 (.slice (some ⟨x2, 0, none⟩) fy.length fy.length)).other (p := ⟨w.heap.size + 1 + 1, 25, none⟩) n1 (.float .f32 fr)).other (p := ⟨w.heap.size + 1 + 1, 26, none⟩) n1 (.float .f32 fd)).other (p := ⟨w.heap.size + 1 + 1, 27, none⟩) n1 (.float .f32 fs))
  have O5 : BlkL _ (w.heap.size + 1 + 1) [.slice (some ⟨q1, 0, none⟩) a.length a.length, .slice (some ⟨q2, 0, none⟩) l.length l.length, .slice (some ⟨q3, 0, none⟩) d.length d.length, .slice (some ⟨q4, 0, none⟩) n n, .int .i64 c, .float .f32 hub, .float .f32 tip, .float .f32 e0, .float .f32 e1, .float .f32 e2, .float .f32 e3, .float .f32 p0, .float .f32 p1, .float .f32 p2, .float .f32 p3, .float .f32 p4, .float .f32 p5, .float .f32 p6, .float .f32 p7, .int .i64 st, .float .f32 sp, .float .f32 pi, .float .f32 en, .slice (some ⟨x1, 0, none⟩) fx.length fx.length, .slice (some ⟨x2, 0, none⟩) fy.length fy.length, .float .f32 fr, .float .f32 fd, .float .f32 fs] := (((((O4.out.set (i := 23) (by simp) (.slice (some ⟨x1, 0, none⟩) fx.length fx.length)).set (i := 24) (by simp) (.slice (some ⟨x2, 0, none⟩) fy.length fy.length)).set (i := 25) (by simp) (.float .f32 fr)).set (i := 26) (by simp) (.float .f32 fd)).set (i := 27) (by simp) (.float .f32 fs))
  generalize hW : World.setCell _ _ _ = W5 at G5 O5 ⊢
  have R5 : OwnR W5 w0.heap.size q1 q2 q3 q4 a l d s := by
    rw [← hW]
    repeat (refine OwnR.setCell ?_ (by rw [S0.out]; show w.heap.size + 1 + 1 < _; omega) _)
    exact RO4.out
  have F5 : OwnS W5 w3.heap.size x1 x2 fx fy := by
    have z3 : w.heap.size + 3 ≤ w3.heap.size := by have := S0.out; have := Z1.out; have := Z2.out; have := Z3.out; omega
    rw [← hW]
    repeat (refine OwnS.setCell ?_ (by show w.heap.size + 1 + 1 < _; omega) _)
    exact FO.out
  have B5 : Below w.heap.size w W5 := by
    rw [← hW]
    repeat (refine Below.setCell ?_ (by show w.heap.size ≤ w.heap.size + 1 + 1; omega) _)
    exact B4.out
  have ht : W5.there (w.heap.size + 1) 0 ([.slice (some ⟨q1, 0, none⟩) a.length a.length, .slice (some ⟨q2, 0, none⟩) l.length l.length, .slice (some ⟨q3, 0, none⟩) d.length d.length, .slice (some ⟨q4, 0, none⟩) n n, .int .i64 c, .float .f32 hub, .float .f32 tip, .float .f32 e0, .float .f32 e1, .float .f32 e2, .float .f32 e3, .float .f32 p0, .float .f32 p1, .float .f32 p2, .float .f32 p3, .float .f32 p4, .float .f32 p5, .float .f32 p6, .float .f32 p7, .int .i64 st, .float .f32 sp, .float .f32 pi, .float .f32 en, .slice (some ⟨x1, 0, none⟩) fx.length fx.length, .slice (some ⟨x2, 0, none⟩) fy.length fy.length, .float .f32 fr, .float .f32 fd, .float .f32 fs] : List Value).toArray.size := fun j hj => by
    obtain ⟨v, hv⟩ : ∃ v, ([.slice none 0 0, .slice none 0 0, .slice none 0 0, .slice none 0 0, .int .i64 0, .float .f32 0, .float .f32 0, .float .f32 0, .float .f32 0, .float .f32 0, .float .f32 0, .float .f32 0, .float .f32 0, .float .f32 0, .float .f32 0, .float .f32 0, .float .f32 0, .float .f32 0, .float .f32 0, .int .i64 0, .float .f32 0, .float .f32 0, .float .f32 0, .slice none 0 0, .slice none 0 0, .float .f32 0, .float .f32 0, .float .f32 0] : List Value)[j]? = some v := ⟨_, List.getElem?_eq_getElem (by simpa using hj)⟩
    rw [Nat.zero_add]
    exact ⟨by rw [(G5.2 j v hv).1]; rfl, (G5.2 j v hv).2⟩
  apply wp_region_lit
  refine wpList_load_mid rfl _ _ rfl (w.heap.size + 1 + 1) 0 rfl [.slice (some ⟨q1, 0, none⟩) a.length a.length, .slice (some ⟨q2, 0, none⟩) l.length l.length, .slice (some ⟨q3, 0, none⟩) d.length d.length, .slice (some ⟨q4, 0, none⟩) n n, .int .i64 c, .float .f32 hub, .float .f32 tip, .float .f32 e0, .float .f32 e1, .float .f32 e2, .float .f32 e3, .float .f32 p0, .float .f32 p1, .float .f32 p2, .float .f32 p3, .float .f32 p4, .float .f32 p5, .float .f32 p6, .float .f32 p7, .int .i64 st, .float .f32 sp, .float .f32 pi, .float .f32 en, .slice (some ⟨x1, 0, none⟩) fx.length fx.length, .slice (some ⟨x2, 0, none⟩) fy.length fy.length, .float .f32 fr, .float .f32 fd, .float .f32 fs] _ (fun j v hj => by rw [Nat.zero_add]; exact (O5.2 j v hj).1) Try.underlying102 rfl (by kernel_rfl) ?_
  refine wpList_store_mid rfl _ _ _ rfl (w.heap.size + 1) 0 _ rfl rfl ht (by kernel_rfl) (all_oneCell_toArray (by simp [Value.oneCell'])) ?_
  have hs := World.rangeAt_setCells_same W5 (w.heap.size + 1) 0 [.slice (some ⟨q1, 0, none⟩) a.length a.length, .slice (some ⟨q2, 0, none⟩) l.length l.length, .slice (some ⟨q3, 0, none⟩) d.length d.length, .slice (some ⟨q4, 0, none⟩) n n, .int .i64 c, .float .f32 hub, .float .f32 tip, .float .f32 e0, .float .f32 e1, .float .f32 e2, .float .f32 e3, .float .f32 p0, .float .f32 p1, .float .f32 p2, .float .f32 p3, .float .f32 p4, .float .f32 p5, .float .f32 p6, .float .f32 p7, .int .i64 st, .float .f32 sp, .float .f32 pi, .float .f32 en, .slice (some ⟨x1, 0, none⟩) fx.length fx.length, .slice (some ⟨x2, 0, none⟩) fy.length fy.length, .float .f32 fr, .float .f32 fd, .float .f32 fs] (by simpa using ht)
  have hld := run_loadVar_mid (P := Try.prog) _ _ _ _ _ _ hs Try.underlying102 rfl (by kernel_rfl)
  have R6 : OwnR (W5.setCells (w.heap.size + 1) 0 [.slice (some ⟨q1, 0, none⟩) a.length a.length, .slice (some ⟨q2, 0, none⟩) l.length l.length, .slice (some ⟨q3, 0, none⟩) d.length d.length, .slice (some ⟨q4, 0, none⟩) n n, .int .i64 c, .float .f32 hub, .float .f32 tip, .float .f32 e0, .float .f32 e1, .float .f32 e2, .float .f32 e3, .float .f32 p0, .float .f32 p1, .float .f32 p2, .float .f32 p3, .float .f32 p4, .float .f32 p5, .float .f32 p6, .float .f32 p7, .int .i64 st, .float .f32 sp, .float .f32 pi, .float .f32 en, .slice (some ⟨x1, 0, none⟩) fx.length fx.length, .slice (some ⟨x2, 0, none⟩) fy.length fy.length, .float .f32 fr, .float .f32 fd, .float .f32 fs]) w0.heap.size q1 q2 q3 q4 a l d s := setCells_keep (Q := fun W => OwnR W w0.heap.size q1 q2 q3 q4 a l d s) (fun W j v h => h.setCell (by rw [S0.out]; show w.heap.size + 1 < _; omega) v) _ _ _ R5
  have F6 : OwnS (W5.setCells (w.heap.size + 1) 0 [.slice (some ⟨q1, 0, none⟩) a.length a.length, .slice (some ⟨q2, 0, none⟩) l.length l.length, .slice (some ⟨q3, 0, none⟩) d.length d.length, .slice (some ⟨q4, 0, none⟩) n n, .int .i64 c, .float .f32 hub, .float .f32 tip, .float .f32 e0, .float .f32 e1, .float .f32 e2, .float .f32 e3, .float .f32 p0, .float .f32 p1, .float .f32 p2, .float .f32 p3, .float .f32 p4, .float .f32 p5, .float .f32 p6, .float .f32 p7, .int .i64 st, .float .f32 sp, .float .f32 pi, .float .f32 en, .slice (some ⟨x1, 0, none⟩) fx.length fx.length, .slice (some ⟨x2, 0, none⟩) fy.length fy.length, .float .f32 fr, .float .f32 fd, .float .f32 fs]) w3.heap.size x1 x2 fx fy := setCells_keep (Q := fun W => OwnS W w3.heap.size x1 x2 fx fy) (fun W j v h => h.setCell (by have := S0.out; have := Z1.out; have := Z2.out; have := Z3.out; show w.heap.size + 1 < _; omega) v) _ _ _ F5
  have B6 : Below w.heap.size w (W5.setCells (w.heap.size + 1) 0 [.slice (some ⟨q1, 0, none⟩) a.length a.length, .slice (some ⟨q2, 0, none⟩) l.length l.length, .slice (some ⟨q3, 0, none⟩) d.length d.length, .slice (some ⟨q4, 0, none⟩) n n, .int .i64 c, .float .f32 hub, .float .f32 tip, .float .f32 e0, .float .f32 e1, .float .f32 e2, .float .f32 e3, .float .f32 p0, .float .f32 p1, .float .f32 p2, .float .f32 p3, .float .f32 p4, .float .f32 p5, .float .f32 p6, .float .f32 p7, .int .i64 st, .float .f32 sp, .float .f32 pi, .float .f32 en, .slice (some ⟨x1, 0, none⟩) fx.length fx.length, .slice (some ⟨x2, 0, none⟩) fy.length fy.length, .float .f32 fr, .float .f32 fd, .float .f32 fs]) := setCells_keep (Q := fun W => Below w.heap.size w W) (fun W j v h => h.setCell (by show w.heap.size ≤ w.heap.size + 1; omega) v) _ _ _ B5
  show wpList _ _ _ _ _ (W5.setCells (w.heap.size + 1) 0 [.slice (some ⟨q1, 0, none⟩) a.length a.length, .slice (some ⟨q2, 0, none⟩) l.length l.length, .slice (some ⟨q3, 0, none⟩) d.length d.length, .slice (some ⟨q4, 0, none⟩) n n, .int .i64 c, .float .f32 hub, .float .f32 tip, .float .f32 e0, .float .f32 e1, .float .f32 e2, .float .f32 e3, .float .f32 p0, .float .f32 p1, .float .f32 p2, .float .f32 p3, .float .f32 p4, .float .f32 p5, .float .f32 p6, .float .f32 p7, .int .i64 st, .float .f32 sp, .float .f32 pi, .float .f32 en, .slice (some ⟨x1, 0, none⟩) fx.length fx.length, .slice (some ⟨x2, 0, none⟩) fy.length fy.length, .float .f32 fr, .float .f32 fd, .float .f32 fs])
  generalize W5.setCells (w.heap.size + 1) 0 [.slice (some ⟨q1, 0, none⟩) a.length a.length, .slice (some ⟨q2, 0, none⟩) l.length l.length, .slice (some ⟨q3, 0, none⟩) d.length d.length, .slice (some ⟨q4, 0, none⟩) n n, .int .i64 c, .float .f32 hub, .float .f32 tip, .float .f32 e0, .float .f32 e1, .float .f32 e2, .float .f32 e3, .float .f32 p0, .float .f32 p1, .float .f32 p2, .float .f32 p3, .float .f32 p4, .float .f32 p5, .float .f32 p6, .float .f32 p7, .int .i64 st, .float .f32 sp, .float .f32 pi, .float .f32 en, .slice (some ⟨x1, 0, none⟩) fx.length fx.length, .slice (some ⟨x2, 0, none⟩) fy.length fy.length, .float .f32 fr, .float .f32 fd, .float .f32 fs] = W6 at hld R6 F6 B6 ⊢
  clear hs ht G5 O5 R5 F5 B5 hW
  go_wp2
  refine bodyPost_ret (v := .agg #[.slice (some ⟨q1, 0, none⟩) a.length a.length, .slice (some ⟨q2, 0, none⟩) l.length l.length, .slice (some ⟨q3, 0, none⟩) d.length d.length, .slice (some ⟨q4, 0, none⟩) n n, .int .i64 c, .float .f32 hub, .float .f32 tip, .float .f32 e0, .float .f32 e1, .float .f32 e2, .float .f32 e3, .float .f32 p0, .float .f32 p1, .float .f32 p2, .float .f32 p3, .float .f32 p4, .float .f32 p5, .float .f32 p6, .float .f32 p7, .int .i64 st, .float .f32 sp, .float .f32 pi, .float .f32 en, .slice (some ⟨x1, 0, none⟩) fx.length fx.length, .slice (some ⟨x2, 0, none⟩) fy.length fy.length, .float .f32 fr, .float .f32 fd, .float .f32 fs]) ?_ rfl ⟨q1, q2, q3, q4, x1, x2, rfl, R6.rt, F6.rs, B6⟩
  clear K4 G4 O4 RO4 FO R6 F6 B6
  rw [results_cell1 Try.results62]
  show ((asAddr (.pointer (some ⟨w.heap.size + 1, 0, none⟩))).run Try.prog W6).andThen _ = _
  simp only [asAddr, Sem.run_pure, Result.andThen, hld]
end Go.Proofs.Ytiiiigldpbomkaa
