/- Desks: sizes, copies, sameness of copies, validity on both sides. No statement is proved here. -/
import Derived.Test.YtiiiigldpbomkaaRotL
import Derived.Test.YtiiiigldpbomkaaValS
import Derived.Test.YtiiiigldpbomkaaAir
import Derived.Test.YtiiiigldpbomkaaDrv
import Derived.Test.YtiiiigldpbomkaaFrmV
namespace Go.Proofs.Ytiiiigldpbomkaa
open Go Go.RowKit
theorem OwnR.setCell {w : World} {B b1 b2 b3 b4 : Nat} {a l d s : List Nat} (h : OwnR w B b1 b2 b3 b4 a l d s) {p : Addr} (hp : p.block < B) (v : Value) : OwnR (w.setCell p v) B b1 b2 b3 b4 a l d s := by
  obtain ⟨⟨h1, h2, h3, h4, h5, h6⟩, h7, h8⟩ := h
  exact ⟨⟨h1, h2, h3, h4.setCell (by omega) v, h5.setCell (by omega) v, h6.setCell (by omega) v⟩, h7, h8.setCell (by omega) v⟩
theorem OwnS.setCell {w : World} {B b1 b2 : Nat} {a l : List Nat} (h : OwnS w B b1 b2 a l) {p : Addr} (hp : p.block < B) (v : Value) : OwnS (w.setCell p v) B b1 b2 a l := by
  obtain ⟨h1, h2, h3, h4⟩ := h
  exact ⟨h1, h2, h3.setCell (by omega) v, h4.setCell (by omega) v⟩
/-- a valid desk -/
def dskV (n : Nat) (c : Int) (hub tip : Nat) (a l d s : List Nat) (e0 e1 e2 e3 : Nat) (p0 p1 p2 p3 p4 p5 p6 p7 : Nat) (st : Int) (sp pi en : Nat) (fx fy : List Nat) (fr fd fs : Nat) : Bool := validR a l d s n c hub tip && (airV e0 e1 e2 e3 && (driveV p0 p1 p2 p3 p4 p5 p6 p7 st sp pi en && frmV fx fy fr fd fs))
set_option maxHeartbeats 8000000 in
theorem l_szDesk_yes (A L D S : Option Addr) (ca cl cd n cs : Nat) (c : Int) (hub tip : Nat) (a l d s : List Nat) (e0 e1 e2 e3 : Nat) (p0 p1 p2 p3 p4 p5 p6 p7 : Nat) (st : Int) (sp pi en : Nat) (X Y : Option Addr) (cx cy : Nat) (fx fy : List Nat) (fr fd fs : Nat) (left : Int) (w : World) (h : (a.length : Int) + l.length + d.length + n + (fx.length + fy.length) ≤ left) (hl : left ≤ 1048576) :
    Calls Try.prog 60 #[.agg #[.slice A a.length ca, .slice L l.length cl, .slice D d.length cd, .slice S n cs, .int .i64 c, .float .f32 hub, .float .f32 tip, .float .f32 e0, .float .f32 e1, .float .f32 e2, .float .f32 e3, .float .f32 p0, .float .f32 p1, .float .f32 p2, .float .f32 p3, .float .f32 p4, .float .f32 p5, .float .f32 p6, .float .f32 p7, .int .i64 st, .float .f32 sp, .float .f32 pi, .float .f32 en, .slice X fx.length cx, .slice Y fy.length cy, .float .f32 fr, .float .f32 fd, .float .f32 fs], .int .i64 left] w fun e w' => e = .returned (.int .i64 (left - a.length - l.length - d.length - n - fx.length - fy.length)) ∧ Below w.heap.size w w' := by
  have hq : (0 : Int) ≤ left - a.length - l.length - d.length - n := by omega
  have hq2 : (0 : Int) ≤ left - a.length - l.length - d.length - n - fx.length - fy.length := by omega
  obtain ⟨w0, hw0⟩ : ∃ x, x = w.alloc (.cells #[.slice A a.length ca, .slice L l.length cl, .slice D d.length cd, .slice S n cs, .int .i64 c, .float .f32 hub, .float .f32 tip, .float .f32 e0, .float .f32 e1, .float .f32 e2, .float .f32 e3, .float .f32 p0, .float .f32 p1, .float .f32 p2, .float .f32 p3, .float .f32 p4, .float .f32 p5, .float .f32 p6, .float .f32 p7, .int .i64 st, .float .f32 sp, .float .f32 pi, .float .f32 en, .slice X fx.length cx, .slice Y fy.length cy, .float .f32 fr, .float .f32 fd, .float .f32 fs] 95) := ⟨_, rfl⟩
  have B0 : Hid (Below w.heap.size w w0) := Lib.hid (by rw [hw0]; exact (Below.refl _ _).alloc (Nat.le_refl _) _)
  have K0 : Hid (BlkL w0 w.heap.size [.slice A a.length ca, .slice L l.length cl, .slice D d.length cd, .slice S n cs, .int .i64 c, .float .f32 hub, .float .f32 tip, .float .f32 e0, .float .f32 e1, .float .f32 e2, .float .f32 e3, .float .f32 p0, .float .f32 p1, .float .f32 p2, .float .f32 p3, .float .f32 p4, .float .f32 p5, .float .f32 p6, .float .f32 p7, .int .i64 st, .float .f32 sp, .float .f32 pi, .float .f32 en, .slice X fx.length cx, .slice Y fy.length cy, .float .f32 fr, .float .f32 fd, .float .f32 fs]) := Lib.hid (by rw [hw0]; exact blkL_at w #[.slice A a.length ca, .slice L l.length cl, .slice D d.length cd, .slice S n cs, .int .i64 c, .float .f32 hub, .float .f32 tip, .float .f32 e0, .float .f32 e1, .float .f32 e2, .float .f32 e3, .float .f32 p0, .float .f32 p1, .float .f32 p2, .float .f32 p3, .float .f32 p4, .float .f32 p5, .float .f32 p6, .float .f32 p7, .int .i64 st, .float .f32 sp, .float .f32 pi, .float .f32 en, .slice X fx.length cx, .slice Y fy.length cy, .float .f32 fr, .float .f32 fd, .float .f32 fs] _ rfl)
  go_enter Try.func60, Try.ntmps60
  go_wp2_with fail
  rw [← hw0]
  clear hw0
  have k0 := (K0.out.2 0 _ rfl).1
  have k1 := (K0.out.2 1 _ rfl).1
  have k2 := (K0.out.2 2 _ rfl).1
  have k3 := (K0.out.2 3 _ rfl).1
  have k4 := (K0.out.2 4 _ rfl).1
  have k5 := (K0.out.2 5 _ rfl).1
  have k6 := (K0.out.2 6 _ rfl).1
  go_wp2_with fail
  refine (l_szRotor_yes A L D S _ ca _ cl _ cd n cs c hub tip _ _ (by omega) (by omega)).mono ?_
  rintro e w1 ⟨rfl, b1⟩
  have B1 : Hid (Below w.heap.size w w1) := Lib.hid (below_of B0.out B0.out.size b1)
  have K1 : Hid (BlkL w1 w.heap.size [.slice A a.length ca, .slice L l.length cl, .slice D d.length cd, .slice S n cs, .int .i64 c, .float .f32 hub, .float .f32 tip, .float .f32 e0, .float .f32 e1, .float .f32 e2, .float .f32 e3, .float .f32 p0, .float .f32 p1, .float .f32 p2, .float .f32 p3, .float .f32 p4, .float .f32 p5, .float .f32 p6, .float .f32 p7, .int .i64 st, .float .f32 sp, .float .f32 pi, .float .f32 en, .slice X fx.length cx, .slice Y fy.length cy, .float .f32 fr, .float .f32 fd, .float .f32 fs]) := Lib.hid (K0.out.below b1)
  clear b1 K0
  clear k0 k1 k2 k3 k4 k5 k6
  have k23 := (K1.out.2 23 _ rfl).1
  have k24 := (K1.out.2 24 _ rfl).1
  have k25 := (K1.out.2 25 _ rfl).1
  have k26 := (K1.out.2 26 _ rfl).1
  have k27 := (K1.out.2 27 _ rfl).1
  go_wp2_with fail
  refine (l_szFarm_yes X Y _ cx _ cy fr fd fs _ _ (by omega) (by omega)).mono ?_
  rintro e w2 ⟨rfl, b2⟩
  go_wp2
  go_ret
  exact ⟨rfl, below_of B1.out B1.out.size b2⟩
set_option maxHeartbeats 8000000 in
theorem l_szDesk_no (A L D S : Option Addr) (ca cl cd n cs : Nat) (c : Int) (hub tip : Nat) (a l d s : List Nat) (e0 e1 e2 e3 : Nat) (p0 p1 p2 p3 p4 p5 p6 p7 : Nat) (st : Int) (sp pi en : Nat) (X Y : Option Addr) (cx cy : Nat) (fx fy : List Nat) (fr fd fs : Nat) (left : Int) (w : World) (h : left < (a.length : Int) + l.length + d.length + n + (fx.length + fy.length)) (h0 : 0 ≤ left) (hl : left ≤ 1048576)
    (ha : a.length ≤ 9223372036854775807) (hll : l.length ≤ 9223372036854775807) (hd : d.length ≤ 9223372036854775807) (hnn : n ≤ 9223372036854775807) (hx : fx.length ≤ 9223372036854775807) (hy : fy.length ≤ 9223372036854775807) :
    Calls Try.prog 60 #[.agg #[.slice A a.length ca, .slice L l.length cl, .slice D d.length cd, .slice S n cs, .int .i64 c, .float .f32 hub, .float .f32 tip, .float .f32 e0, .float .f32 e1, .float .f32 e2, .float .f32 e3, .float .f32 p0, .float .f32 p1, .float .f32 p2, .float .f32 p3, .float .f32 p4, .float .f32 p5, .float .f32 p6, .float .f32 p7, .int .i64 st, .float .f32 sp, .float .f32 pi, .float .f32 en, .slice X fx.length cx, .slice Y fy.length cy, .float .f32 fr, .float .f32 fd, .float .f32 fs], .int .i64 left] w fun e w' => e = .returned (.int .i64 (-1)) ∧ Below w.heap.size w w' := by
  obtain ⟨w0, hw0⟩ : ∃ x, x = w.alloc (.cells #[.slice A a.length ca, .slice L l.length cl, .slice D d.length cd, .slice S n cs, .int .i64 c, .float .f32 hub, .float .f32 tip, .float .f32 e0, .float .f32 e1, .float .f32 e2, .float .f32 e3, .float .f32 p0, .float .f32 p1, .float .f32 p2, .float .f32 p3, .float .f32 p4, .float .f32 p5, .float .f32 p6, .float .f32 p7, .int .i64 st, .float .f32 sp, .float .f32 pi, .float .f32 en, .slice X fx.length cx, .slice Y fy.length cy, .float .f32 fr, .float .f32 fd, .float .f32 fs] 95) := ⟨_, rfl⟩
  have B0 : Hid (Below w.heap.size w w0) := Lib.hid (by rw [hw0]; exact (Below.refl _ _).alloc (Nat.le_refl _) _)
  have K0 : Hid (BlkL w0 w.heap.size [.slice A a.length ca, .slice L l.length cl, .slice D d.length cd, .slice S n cs, .int .i64 c, .float .f32 hub, .float .f32 tip, .float .f32 e0, .float .f32 e1, .float .f32 e2, .float .f32 e3, .float .f32 p0, .float .f32 p1, .float .f32 p2, .float .f32 p3, .float .f32 p4, .float .f32 p5, .float .f32 p6, .float .f32 p7, .int .i64 st, .float .f32 sp, .float .f32 pi, .float .f32 en, .slice X fx.length cx, .slice Y fy.length cy, .float .f32 fr, .float .f32 fd, .float .f32 fs]) := Lib.hid (by rw [hw0]; exact blkL_at w #[.slice A a.length ca, .slice L l.length cl, .slice D d.length cd, .slice S n cs, .int .i64 c, .float .f32 hub, .float .f32 tip, .float .f32 e0, .float .f32 e1, .float .f32 e2, .float .f32 e3, .float .f32 p0, .float .f32 p1, .float .f32 p2, .float .f32 p3, .float .f32 p4, .float .f32 p5, .float .f32 p6, .float .f32 p7, .int .i64 st, .float .f32 sp, .float .f32 pi, .float .f32 en, .slice X fx.length cx, .slice Y fy.length cy, .float .f32 fr, .float .f32 fd, .float .f32 fs] _ rfl)
  by_cases h1 : (a.length : Int) + l.length + d.length + n ≤ left
  · have hq : (0 : Int) ≤ left - a.length - l.length - d.length - n := by omega
    go_enter Try.func60, Try.ntmps60
    go_wp2_with fail
    rw [← hw0]
    clear hw0
    have k0 := (K0.out.2 0 _ rfl).1
    have k1 := (K0.out.2 1 _ rfl).1
    have k2 := (K0.out.2 2 _ rfl).1
    have k3 := (K0.out.2 3 _ rfl).1
    have k4 := (K0.out.2 4 _ rfl).1
    have k5 := (K0.out.2 5 _ rfl).1
    have k6 := (K0.out.2 6 _ rfl).1
    go_wp2_with fail
    refine (l_szRotor_yes A L D S _ ca _ cl _ cd n cs c hub tip _ _ (by omega) (by omega)).mono ?_
    rintro e w1 ⟨rfl, b1⟩
    have B1 : Hid (Below w.heap.size w w1) := Lib.hid (below_of B0.out B0.out.size b1)
    have K1 : Hid (BlkL w1 w.heap.size [.slice A a.length ca, .slice L l.length cl, .slice D d.length cd, .slice S n cs, .int .i64 c, .float .f32 hub, .float .f32 tip, .float .f32 e0, .float .f32 e1, .float .f32 e2, .float .f32 e3, .float .f32 p0, .float .f32 p1, .float .f32 p2, .float .f32 p3, .float .f32 p4, .float .f32 p5, .float .f32 p6, .float .f32 p7, .int .i64 st, .float .f32 sp, .float .f32 pi, .float .f32 en, .slice X fx.length cx, .slice Y fy.length cy, .float .f32 fr, .float .f32 fd, .float .f32 fs]) := Lib.hid (K0.out.below b1)
    clear b1 K0
    clear k0 k1 k2 k3 k4 k5 k6
    have k23 := (K1.out.2 23 _ rfl).1
    have k24 := (K1.out.2 24 _ rfl).1
    have k25 := (K1.out.2 25 _ rfl).1
    have k26 := (K1.out.2 26 _ rfl).1
    have k27 := (K1.out.2 27 _ rfl).1
    go_wp2_with fail
    refine (l_szFarm_no X Y _ cx _ cy fr fd fs _ _ (by omega) (by omega) (by omega) hx hy).mono ?_
    rintro e w2 ⟨rfl, b2⟩
    go_wp2
    go_ret
    exact ⟨rfl, below_of B1.out B1.out.size b2⟩
  · go_enter Try.func60, Try.ntmps60
    go_wp2_with fail
    rw [← hw0]
    clear hw0
    have k0 := (K0.out.2 0 _ rfl).1
    have k1 := (K0.out.2 1 _ rfl).1
    have k2 := (K0.out.2 2 _ rfl).1
    have k3 := (K0.out.2 3 _ rfl).1
    have k4 := (K0.out.2 4 _ rfl).1
    have k5 := (K0.out.2 5 _ rfl).1
    have k6 := (K0.out.2 6 _ rfl).1
    go_wp2_with fail
    refine (l_szRotor_no A L D S _ ca _ cl _ cd n cs c hub tip _ _ (by omega) (by omega) (by omega) ha hll hd hnn).mono ?_
    rintro e w1 ⟨rfl, b1⟩
    have B1 : Hid (Below w.heap.size w w1) := Lib.hid (below_of B0.out B0.out.size b1)
    go_wp2
    go_ret
    exact ⟨rfl, B1.out⟩
end Go.Proofs.Ytiiiigldpbomkaa
