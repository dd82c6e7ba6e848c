/- Farms with other places: the program's side. No statement is proved here. -/
import Derived.Test.YtiiiigldpbomkaaPlaS
import Derived.Test.YtiiiigldpbomkaaInv7
namespace Go.Proofs.Ytiiiigldpbomkaa
open Go Go.RowKit
theorem OwnR2.turnB {w w' : World} {RB B0 b1 b2 : Nat} {A L : Option Addr} {a l : List Nat} (h : OwnR2 w B0 A L b1 b2 a l) (ht : Turn w w' (fun b => b = RB)) (hb : RB < B0) : OwnR2 w' B0 A L b1 b2 a l := ⟨h.1.turnB ht hb, h.2.1.turnB ht hb, h.2.2⟩
theorem OwnO.setB {w : World} {B0 b : Nat} {A : Option Addr} {xs : List Nat} (h : OwnO w B0 A b xs) {p : Addr} (hp : p.block < B0) (v : Value) : OwnO (w.setCell p v) B0 A b xs := by
  rcases h with h | ⟨h1, h2, h3⟩
  · exact .inl h
  · exact .inr ⟨h1, h2, h3.setCell (by omega) v⟩
theorem OwnO.baseB {w : World} {B0 B b : Nat} {A : Option Addr} {xs : List Nat} (h : OwnO w B0 A b xs) (hB : B ≤ B0) : OwnO w B A b xs := by
  rcases h with h | ⟨h1, h2, h3⟩
  · exact .inl h
  · exact .inr ⟨h1, Nat.le_trans hB h2, h3⟩
theorem OwnR2.setB {w : World} {B0 b1 b2 : Nat} {A L : Option Addr} {a l : List Nat} (h : OwnR2 w B0 A L b1 b2 a l) {p : Addr} (hp : p.block < B0) (v : Value) : OwnR2 (w.setCell p v) B0 A L b1 b2 a l := ⟨h.1.setB hp v, h.2.1.setB hp v, h.2.2⟩
theorem OwnR2.baseB {w : World} {B0 B b1 b2 : Nat} {A L : Option Addr} {a l : List Nat} (h : OwnR2 w B0 A L b1 b2 a l) (hB : B ≤ B0) : OwnR2 w B A L b1 b2 a l := ⟨h.1.baseB hB, h.2.1.baseB hB, h.2.2⟩
theorem Fl.turnF {w w1 w3 : World} {RB : Nat} {A : Option Addr} {xs : List Nat} (h : Fl w A xs) (hb : Below w.heap.size w w1) (ht : Turn w1 w3 (fun b => b = RB)) (hr : w.heap.size ≤ RB) : Fl w3 A xs := by
  rcases h with h | ⟨b, o, e, h1, h2⟩
  · exact .inl h
  · refine .inr ⟨b, o, e, Nat.lt_of_lt_of_le (Nat.lt_of_lt_of_le h1 hb.size) ht.1, fun k hk => ?_⟩
    rw [ht.2.1 ⟨b, o + k, none⟩ (Nat.lt_of_lt_of_le h1 hb.size) (by show b ≠ RB; omega), hb.cell (p := ⟨b, o + k, none⟩) h1]
    exact h2 k hk
/-- a farm that is told, with whether it is one -/
def FGiv (B0 : Nat) (O : Bool) (X Y : List Nat) (fr fd fs : Nat) (W : World) (v : Value) : Prop :=
  ∃ (Ra Rb : Option Addr) (da db ka kb : Nat), v = .tuple #[.agg #[.slice Ra (gL O X).length da, .slice Rb (gL O Y).length db, .float .f32 (gF O fr), .float .f32 (gF O fd), .float .f32 (gF O fs)], .bool O] ∧ OwnR2 W B0 Ra Rb ka kb (gL O X) (gL O Y)
def FAgg (B0 : Nat) (O : Bool) (X Y : List Nat) (fr fd fs : Nat) (W : World) (v : Value) : Prop :=
  ∃ (Ra Rb : Option Addr) (da db ka kb : Nat), v = .agg #[.slice Ra (gL O X).length da, .slice Rb (gL O Y).length db, .float .f32 (gF O fr), .float .f32 (gF O fd), .float .f32 (gF O fs)] ∧ OwnR2 W B0 Ra Rb ka kb (gL O X) (gL O Y)
theorem FGiv.turn {B0 RB : Nat} {O : Bool} {X Y : List Nat} {fr fd fs : Nat} {W W' : World} {v : Value} (h : FGiv B0 O X Y fr fd fs W v) (ht : Turn W W' (fun b => b = RB)) (hb : RB < B0) : FGiv B0 O X Y fr fd fs W' v := by
  obtain ⟨Ra, Rb, da, db, ka, kb, rfl, h⟩ := h
  exact ⟨Ra, Rb, da, db, ka, kb, rfl, h.turnB ht hb⟩
theorem FAgg.turn {B0 RB : Nat} {O : Bool} {X Y : List Nat} {fr fd fs : Nat} {W W' : World} {v : Value} (h : FAgg B0 O X Y fr fd fs W v) (ht : Turn W W' (fun b => b = RB)) (hb : RB < B0) : FAgg B0 O X Y fr fd fs W' v := by
  obtain ⟨Ra, Rb, da, db, ka, kb, rfl, h⟩ := h
  exact ⟨Ra, Rb, da, db, ka, kb, rfl, h.turnB ht hb⟩
def FFin (RB B0 : Nat) (O : Bool) (X Y : List Nat) (fr fd fs : Nat) (W : World) : Prop :=
  ∃ (Ra Rb : Option Addr) (da db ka kb : Nat), BlkL W RB [.slice Ra (gL O X).length da, .slice Rb (gL O Y).length db, .float .f32 (gF O fr), .float .f32 (gF O fd), .float .f32 (gF O fs)] ∧ OwnR2 W B0 Ra Rb ka kb (gL O X) (gL O Y)
theorem FFin.below (RB B0 : Nat) (O : Bool) (X Y : List Nat) (fr fd fs : Nat) : ∀ wa wb : World, Below wa.heap.size wa wb → FFin RB B0 O X Y fr fd fs wa → FFin RB B0 O X Y fr fd fs wb := by
  rintro wa wb hb ⟨Ra, Rb, da, db, ka, kb, h1, h2⟩
  exact ⟨Ra, Rb, da, db, ka, kb, h1.below hb, h2.below hb⟩
/-- a list that was copied or put together -/
def LNew (B0 n : Nat) (xs : List Nat) (W : World) (v : Value) : Prop := ∃ cp bk, v = .slice (some ⟨bk, 0, none⟩) n cp ∧ Own W bk xs ∧ B0 ≤ bk
theorem LNew.turn {B0 RB n : Nat} {xs : List Nat} {W W' : World} {v : Value} (h : LNew B0 n xs W v) (ht : Turn W W' (fun b => b = RB)) (hb : RB < B0) : LNew B0 n xs W' v := by
  obtain ⟨cp, bk, rfl, h1, h2⟩ := h
  exact ⟨cp, bk, rfl, h1.turn ht (by show ¬ bk = RB; omega), h2⟩
/-- one number in a block of its own -/
def One (B0 x : Nat) (W : World) (v : Value) : Prop := ∃ B, v = .slice (some ⟨B, 0, none⟩) 1 1 ∧ Fl W (some ⟨B, 0, none⟩) [x] ∧ B0 ≤ B
theorem One.turn {B0 RB x : Nat} {W W' : World} {v : Value} (h : One B0 x W v) (ht : Turn W W' (fun b => b = RB)) (hb : RB < B0) : One B0 x W' v := by
  obtain ⟨B, rfl, h1, h2⟩ := h
  exact ⟨B, rfl, h1.turnB ht (fun b o e => by cases e; omega), h2⟩
/-- two lists in a block of their own, to be put together -/
def Pair (B0 : Nat) (A A' : Option Addr) (n c n' c' : Nat) (W : World) (v : Value) : Prop := ∃ B, v = .slice (some ⟨B, 0, none⟩) 2 2 ∧ BlkL W B [.slice A n c, .slice A' n' c'] ∧ B0 ≤ B
theorem Pair.turn {B0 RB : Nat} {A A' : Option Addr} {n c n' c' : Nat} {W W' : World} {v : Value} (h : Pair B0 A A' n c n' c' W v) (ht : Turn W W' (fun b => b = RB)) (hb : RB < B0) : Pair B0 A A' n c n' c' W' v := by
  obtain ⟨B, rfl, h1, h2⟩ := h
  exact ⟨B, rfl, h1.turnS ht (by intro e; omega), h2⟩
/-- a list and one number, to be put together -/
def PairO (B0 : Nat) (A : Option Addr) (n c x : Nat) (W : World) (v : Value) : Prop := ∃ B, Pair B0 A (some ⟨B, 0, none⟩) n c 1 1 W v ∧ Fl W (some ⟨B, 0, none⟩) [x] ∧ B0 ≤ B
theorem PairO.turn {B0 RB : Nat} {A : Option Addr} {n c x : Nat} {W W' : World} {v : Value} (h : PairO B0 A n c x W v) (ht : Turn W W' (fun b => b = RB)) (hb : RB < B0) : PairO B0 A n c x W' v := by
  obtain ⟨B, h1, h2, h3⟩ := h
  exact ⟨B, h1.turn ht hb, h2.turnB ht (fun b o e => by cases e; omega), h3⟩
theorem fl_one (w : World) (x : Nat) (t : TypeId) : Fl (w.alloc (.cells #[.float .f32 x] t)) (some ⟨w.heap.size, 0, none⟩) [x] :=
  .inr ⟨_, 0, rfl, by simp, fun k hk => by
    have hk : k = 0 := by simp at hk; exact hk
    subst hk
    exact ((blkL_at w #[.float .f32 x] t rfl).2 0 _ rfl).1⟩
theorem lib_Pair (b off b' off' ca cl Bs n n' : Nat) (a l : List Nat) (w : World) (e1 : a.length = n) (e2 : l.length = n') (hA : Fl w (some ⟨b, off, none⟩) a) (hL : Fl w (some ⟨b', off', none⟩) l) (hk : BlkL w Bs [.slice (some ⟨b, off, none⟩) n ca, .slice (some ⟨b', off', none⟩) n' cl]) (hn : n + n' ≤ 1048576) (h1 : 1 ≤ n + n') :
    Calls Try.prog 132 #[.slice (some ⟨Bs, 0, none⟩) 2 2] w fun e w' => ∃ v cp g, e = .returned v ∧ v = .slice (some ⟨g, 0, none⟩) (n + n') cp ∧ Own w' g (a ++ l) ∧ w.heap.size ≤ g ∧ Below w.heap.size w w' := by
  subst e1
  subst e2
  refine (lib_Concat2 b off b' off' ca cl Bs a l w hA hL hk hn h1).mono ?_
  rintro e w' ⟨A', c, g, rfl, ho, hb⟩
  rcases ho with h | ⟨rfl, h2, h3⟩
  · have := congrArg List.length h; simp at this; exfalso; rw [this.1, this.2] at h1; simp at h1
  · exact ⟨_, c, g, rfl, rfl, h3, h2, hb⟩
theorem lib_CloneF (A : Option Addr) (cap : Nat) (xs : List Nat) (w : World) (h : Fl w A xs) (hn : xs.length ≤ 1048576) (h1 : 1 ≤ xs.length) :
    Calls Try.prog 154 #[.slice A xs.length cap] w fun e w' => ∃ cp g, e = .returned (.slice (some ⟨g, 0, none⟩) xs.length cp) ∧ Own w' g xs ∧ w.heap.size ≤ g ∧ Below w.heap.size w w' := by
  refine (lib_Clone A cap xs w h hn h1).mono ?_
  rintro e w' ⟨A', c, b, rfl, ho, hb⟩
  rcases ho with h | ⟨rfl, h2, h3⟩
  · rw [h] at h1; exact absurd h1 (by simp)
  · exact ⟨c, b, rfl, h3, h2, hb⟩
theorem i_withPl (X0 Y0 : Option Addr) (n0 c0 m0 d0 b1 b2 c1 c2 n1 n2 B0 fr fd fs : Nat) (xs ys : List Nat) (O : Bool) (w : World) (e1 : xs.length = n1) (e2 : ys.length = n2) (h1 : Own w b1 xs) (h2 : Own w b2 ys) (hb1 : B0 ≤ b1) (hb2 : B0 ≤ b2) (hne : b1 ≠ b2) (hn : FewS xs ys) (hO : O = frmV xs ys fr fd fs) :
    Calls Try.prog 131 #[.agg #[.slice X0 n0 c0, .slice Y0 m0 d0, .float .f32 fr, .float .f32 fd, .float .f32 fs], .slice (some ⟨b1, 0, none⟩) n1 c1, .slice (some ⟨b2, 0, none⟩) n2 c2] w fun e w' => ∃ v, e = .returned v ∧ FGiv B0 O xs ys fr fd fs w' v ∧ Below w.heap.size w w' := by
  subst e1
  subst e2
  cases v : frmV xs ys fr fd fs
  · refine (i_withPlaces_no X0 Y0 n0 c0 m0 d0 (some ⟨b1, 0, none⟩) (some ⟨b2, 0, none⟩) c1 c2 xs ys fr fd fs w ⟨h1.fl, h2.fl⟩ hn v).mono ?_
    rintro e w' ⟨rfl, hb⟩
    rw [hO, v]
    exact ⟨_, rfl, ⟨none, none, 0, 0, 0, 1, rfl, .inl rfl, .inl rfl, by decide⟩, hb⟩
  · refine (i_withPlaces_yes X0 Y0 n0 c0 m0 d0 (some ⟨b1, 0, none⟩) (some ⟨b2, 0, none⟩) c1 c2 xs ys fr fd fs w ⟨h1.fl, h2.fl⟩ hn v).mono ?_
    rintro e w' ⟨rfl, hb⟩
    rw [hO, v]
    exact ⟨_, rfl, ⟨some ⟨b1, 0, none⟩, some ⟨b2, 0, none⟩, c1, c2, b1, b2, rfl, (h1.below hb).o hb1, (h2.below hb).o hb2, hne⟩, hb⟩
set_option maxHeartbeats 16000000 in
set_option maxRecDepth 100000 in
theorem i_AddPlace (X Y : Option Addr) (cx cy : Nat) (fx fy : List Nat) (fr fd fs : Nat) (x y : Nat) (w : World) (h : Rs w X Y fx fy) (hn : FewS fx fy) :
    Calls Try.prog 52 #[.agg #[.slice X fx.length cx, .slice Y fy.length cy, .float .f32 fr, .float .f32 fd, .float .f32 fs], .float .f32 x, .float .f32 y] w fun e w' => ∃ (R1 R2 : Option Addr) (c1 c2 g1 g2 : Nat), e = .returned (.tuple #[.agg #[.slice R1 (gL (plcO fx fy fr fd fs true (fx ++ [x]) (fy ++ [y])) (fx ++ [x])).length c1, .slice R2 (gL (plcO fx fy fr fd fs true (fx ++ [x]) (fy ++ [y])) (fy ++ [y])).length c2, .float .f32 (gF (plcO fx fy fr fd fs true (fx ++ [x]) (fy ++ [y])) fr), .float .f32 (gF (plcO fx fy fr fd fs true (fx ++ [x]) (fy ++ [y])) fd), .float .f32 (gF (plcO fx fy fr fd fs true (fx ++ [x]) (fy ++ [y])) fs)], .bool (plcO fx fy fr fd fs true (fx ++ [x]) (fy ++ [y]))]) ∧ OwnR2 w' w.heap.size R1 R2 g1 g2 (gL (plcO fx fy fr fd fs true (fx ++ [x]) (fy ++ [y])) (fx ++ [x])) (gL (plcO fx fy fr fd fs true (fx ++ [x]) (fy ++ [y])) (fy ++ [y])) ∧ Below w.heap.size w w' := by
  have HP := Lib.hid h; clear h
  have HON : Hid (frmV fx fy fr fd fs = false → plcO fx fy fr fd fs true (fx ++ [x]) (fy ++ [y]) = false) := Lib.hid plcO_v
  have HOY : Hid (frmV fx fy fr fd fs = true → plcO fx fy fr fd fs true (fx ++ [x]) (fy ++ [y]) = frmV (fx ++ [x]) (fy ++ [y]) fr fd fs) := Lib.hid (fun h => plcO_y h rfl)
  generalize plcO fx fy fr fd fs true (fx ++ [x]) (fy ++ [y]) = O at HON HOY ⊢
  obtain ⟨w0, hw0⟩ : ∃ x, x = (w.alloc (.cells #[.slice X fx.length cx, .slice Y fy.length cy, .float .f32 fr, .float .f32 fd, .float .f32 fs] 79)).alloc (.cells #[.slice none 0 0, .slice none 0 0, .float .f32 0, .float .f32 0, .float .f32 0] 79) := ⟨_, rfl⟩
  have K0 : Hid (BlkL w0 w.heap.size [.slice X fx.length cx, .slice Y fy.length cy, .float .f32 fr, .float .f32 fd, .float .f32 fs]) := Lib.hid (by rw [hw0]; exact (blkL_at w #[.slice X fx.length cx, .slice Y fy.length cy, .float .f32 fr, .float .f32 fd, .float .f32 fs] _ rfl).alloc _)
  have KR : Hid (BlkL w0 (w.heap.size + 1) [.slice none 0 0, .slice none 0 0, .float .f32 0, .float .f32 0, .float .f32 0]) := Lib.hid (by rw [hw0]; exact blkL_at (w.alloc _) #[.slice none 0 0, .slice none 0 0, .float .f32 0, .float .f32 0, .float .f32 0] _ (by simp))
  have B0 : Hid (Below w.heap.size w w0) := Lib.hid (by rw [hw0]; exact ((Below.refl _ _).alloc (Nat.le_refl _) _).alloc (by simp) _)
  have Z0 : Hid (w0.heap.size = w.heap.size + 2) := Lib.hid (by rw [hw0]; simp)
  go_enter Try.func52, Try.ntmps52
  go_wp2_with fail
  rw [← hw0]
  clear hw0
  refine (i_ValidFarm X Y cx cy fx fy fr fd fs _ ⟨HP.out.1.below B0.out, HP.out.2.below B0.out⟩ hn).mono ?_
  rintro e w1 ⟨rfl, b1⟩
  have L0 : Hid (BlkL w1 w.heap.size [.slice X fx.length cx, .slice Y fy.length cy, .float .f32 fr, .float .f32 fd, .float .f32 fs]) := Lib.hid (K0.out.below b1)
  have LR : Hid (BlkL w1 (w.heap.size + 1) [.slice none 0 0, .slice none 0 0, .float .f32 0, .float .f32 0, .float .f32 0]) := Lib.hid (KR.out.below b1)
  have B1 : Hid (Below w.heap.size w w1) := Lib.hid (below_of B0.out B0.out.size b1)
  have Z1 : Hid (w.heap.size + 2 ≤ w1.heap.size) := Lib.hid (by have := b1.size; have := Z0.out; omega)
  clear b1 K0 KR B0 Z0
  cases v0 : frmV fx fy fr fd fs
  · have HN := Lib.hid (HON.out v0)
    clear v0
    have p0 := (LR.out.2 0 _ rfl).1
    have q0 := (LR.out.2 0 _ rfl).2
    have p1 := (LR.out.2 1 _ rfl).1
    have q1 := (LR.out.2 1 _ rfl).2
    have p2 := (LR.out.2 2 _ rfl).1
    have q2 := (LR.out.2 2 _ rfl).2
    have p3 := (LR.out.2 3 _ rfl).1
    have q3 := (LR.out.2 3 _ rfl).2
    have p4 := (LR.out.2 4 _ rfl).1
    have q4 := (LR.out.2 4 _ rfl).2
    go_wp2
    refine bodyPost_ret (v := .tuple #[.agg #[.slice none 0 0, .slice none 0 0, .float .f32 0, .float .f32 0, .float .f32 0], .bool false]) ?_ rfl ?_
    · simp [results, Try.results52, go_sem, p0, p1, p2, p3, p4]
    · rw [HN.out]
      exact ⟨none, none, 0, 0, 0, 1, rfl, ⟨.inl rfl, .inl rfl, by decide⟩, (((((B1.out).setCell (p := ⟨w.heap.size + 1, 0, none⟩) (by show w.heap.size ≤ w.heap.size + 1; omega) _).setCell (p := ⟨w.heap.size + 1, 1, none⟩) (by show w.heap.size ≤ w.heap.size + 1; omega) _).setCell (p := ⟨w.heap.size + 1, 2, none⟩) (by show w.heap.size ≤ w.heap.size + 1; omega) _).setCell (p := ⟨w.heap.size + 1, 3, none⟩) (by show w.heap.size ≤ w.heap.size + 1; omega) _).setCell (p := ⟨w.heap.size + 1, 4, none⟩) (by show w.heap.size ≤ w.heap.size + 1; omega) _⟩
  · obtain ⟨hx, hx2, hy2⟩ := frmV_sized v0
    have hy : 1 ≤ fy.length := by omega
    have hy12 : fy.length ≤ 12 := by omega
    have HO := Lib.hid (HOY.out v0)
    clear v0 HON HOY hy2
    obtain ⟨bA, oA, rfl, -, -⟩ := (HP.out.1.below B1.out).at_ (k := 0) (by omega)
    obtain ⟨bL, oL, rfl, -, -⟩ := (HP.out.2.below B1.out).at_ (k := 0) (by omega)
    have HLX : Hid ((fx ++ [x]).length = fx.length + 1) := Lib.hid (by simp)
    have HLY : Hid ((fy ++ [y]).length = fy.length + 1) := Lib.hid (by simp)
    have HSM : Hid (fx.length ≤ 12 ∧ fy.length ≤ 12) := Lib.hid ⟨hx2, hy12⟩
    have z1 := Z1.out
    go_wp2_with fail
    have hFin := FFin.below (w.heap.size + 1) w1.heap.size O (fx ++ [x]) (fy ++ [y]) fr fd fs
    refine wp_region_inv7 (fun iq wv v => match iq with
      | 0 => v = .agg #[.slice (some ⟨bA, oA, none⟩) fx.length cx, .slice (some ⟨bL, oL, none⟩) fy.length cy, .float .f32 fr, .float .f32 fd, .float .f32 fs]
      | 1 => v = .pointer (some ⟨w.heap.size, 0, none⟩)
      | 2 => v = .slice (some ⟨bA, oA, none⟩) fx.length cx
      | 3 => v = .float .f32 x
      | 4 => One w1.heap.size x wv v
      | 5 => PairO w1.heap.size (some ⟨bA, oA, none⟩) fx.length cx x wv v
      | 6 => LNew w1.heap.size (fx.length + 1) (fx ++ [x]) wv v
      | 7 => v = .pointer (some ⟨w.heap.size, 1, none⟩)
      | 8 => v = .slice (some ⟨bL, oL, none⟩) fy.length cy
      | 9 => v = .float .f32 y
      | 10 => One w1.heap.size y wv v
      | 11 => PairO w1.heap.size (some ⟨bL, oL, none⟩) fy.length cy y wv v
      | 12 => LNew w1.heap.size (fy.length + 1) (fy ++ [y]) wv v
      | 13 => FGiv w1.heap.size O (fx ++ [x]) (fy ++ [y]) fr fd fs wv v
      | 14 => FAgg w1.heap.size O (fx ++ [x]) (fy ++ [y]) fr fd fs wv v
      | 15 => v = .bool O
      | 16 => True
      | 17 => v = .bool O
      | _ => False) (fun listed aa ww => StC w1 (w.heap.size + 1) 5 16 (FFin (w.heap.size + 1) w1.heap.size O (fx ++ [x]) (fy ++ [y]) fr fd fs) listed ww ∧ AP [18, 24] aa ww) (fun wa wb => Turn wa wb (fun b => b = (w.heap.size + 1))) ?hmono (by kernel_rfl) (by kernel_rfl) ⟨StC.start LR.out rfl, AP.start (by rfl)⟩ ?hop ?hend
    case hmono =>
      intro i wa wb v hR hV
      rcases i with _ | _ | _ | _ | _ | _ | _ | _ | _ | _ | _ | _ | _ | _ | _ | _ | _ | _ | i
      · exact hV
      · exact hV
      · exact hV
      · exact hV
      · exact hV.turn hR (by omega)
      · exact hV.turn hR (by omega)
      · exact hV.turn hR (by omega)
      · exact hV
      · exact hV
      · exact hV
      · exact hV.turn hR (by omega)
      · exact hV.turn hR (by omega)
      · exact hV.turn hR (by omega)
      · exact hV.turn hR (by omega)
      · exact hV.turn hR (by omega)
      · exact hV
      · exact hV
      · exact hV
      · exact hV
    case hop =>
      intro q o hq listed act w3 hI hCA hnot hcl hall
      obtain ⟨hC, hA⟩ := hCA
      have hlen : listed.size = 18 := hI.len
      obtain ⟨kx0, kx1, kx2, kx3, kx4⟩ := (L0.out.turnS hC.1 (by intro e; omega)).five
      rcases q with _ | _ | _ | _ | _ | _ | _ | _ | _ | _ | _ | _ | _ | _ | _ | _ | _ | _ | q
      · simp at hq; subst hq
        have g3 : act.tmps[3]?.getD undef = .pointer (some ⟨w.heap.size, 0, none⟩) := hI.kept 3 (by kernel_rfl)
        have hA2 := fun v => AP.other (k := 12) hA (by decide) v
        clear hI hall hnot hcl
        refine .inl ⟨wanted_none rfl, ?_⟩
        unfold Oper.wp
        go_simp
        all_goals exact ⟨_, rfl, Turn.refl _ _, rfl, StC.step (k := 0) hC (Below.refl _ _) hFin (by decide) (by rw [hlen]; decide), hA2 _⟩
      · simp at hq; subst hq
        have g3 : act.tmps[3]?.getD undef = .pointer (some ⟨w.heap.size, 0, none⟩) := hI.kept 3 (by kernel_rfl)
        have hA2 := fun v => AP.other (k := 13) hA (by decide) v
        clear hI hall hnot hcl
        refine .inl ⟨wanted_none rfl, ?_⟩
        unfold Oper.wp
        go_simp
        all_goals exact ⟨_, rfl, Turn.refl _ _, rfl, StC.step (k := 1) hC (Below.refl _ _) hFin (by decide) (by rw [hlen]; decide), hA2 _⟩
      · simp at hq; subst hq
        have g13 : act.tmps[13]?.getD undef = .pointer (some ⟨w.heap.size, 0, none⟩) := hI.has 1 13 rfl (hall ⟨1, .data⟩ (by simp) rfl)
        have hA2 := fun v => AP.other (k := 14) hA (by decide) v
        clear hI hall hnot hcl
        refine .inl ⟨wanted_none rfl, ?_⟩
        unfold Oper.wp
        go_simp
        all_goals exact ⟨_, rfl, Turn.refl _ _, rfl, StC.step (k := 2) hC (Below.refl _ _) hFin (by decide) (by rw [hlen]; decide), hA2 _⟩
      · simp at hq; subst hq
        have g1 : act.tmps[1]?.getD undef = .float .f32 x := hI.kept 1 (by kernel_rfl)
        have hA2 := fun v => AP.other (k := 15) hA (by decide) v
        clear hI hall hnot hcl
        refine .inl ⟨wanted_none rfl, ?_⟩
        unfold Oper.wp
        go_simp
        all_goals exact ⟨_, rfl, Turn.refl _ _, rfl, StC.step (k := 3) hC (Below.refl _ _) hFin (by decide) (by rw [hlen]; decide), hA2 _⟩
      · simp at hq; subst hq
        have g15 : act.tmps[15]?.getD undef = .float .f32 x := hI.has 3 15 rfl (hall ⟨3, .data⟩ (by simp) rfl)
        have hA2 := fun v => AP.other (k := 16) hA (by decide) v
        clear hI hall hnot hcl
        refine .inl ⟨wanted_none rfl, ?_⟩
        unfold Oper.wp
        go_simp
        exact ⟨_, rfl, Turn.of_below ((Below.refl _ _).alloc (Nat.le_refl _) _) _, ⟨_, rfl, fl_one _ _ _, hC.1.1⟩, StC.step (k := 4) hC ((Below.refl _ _).alloc (Nat.le_refl _) _) hFin (by decide) (by rw [hlen]; decide), (hA2 _).grow (by simp)⟩
      · simp at hq; subst hq
        have g14 : act.tmps[14]?.getD undef = .slice (some ⟨bA, oA, none⟩) fx.length cx := hI.has 2 14 rfl (hall ⟨2, .data⟩ (by simp) rfl)
        have G16 := hI.has 4 16 rfl (hall ⟨4, .data⟩ (by simp) rfl)
        have hA2 := fun v => AP.other (k := 17) hA (by decide) v
        clear hI hall hnot hcl
        refine .inl ⟨wanted_none rfl, ?_⟩
        unfold Oper.wp
        go_simp
        obtain ⟨B, eg, hf, hlo⟩ := G16
        rw [eg]
        go_simp
        exact ⟨_, rfl, Turn.of_below ((Below.refl _ _).alloc (Nat.le_refl _) _) _, ⟨B, ⟨_, rfl, blkL_at _ #[_, _] _ rfl, hC.1.1⟩, hf.below ((Below.refl _ _).alloc (Nat.le_refl _) _), hlo⟩, StC.step (k := 5) hC ((Below.refl _ _).alloc (Nat.le_refl _) _) hFin (by decide) (by rw [hlen]; decide), (hA2 _).grow (by simp)⟩
      · simp at hq; subst hq
        have G17 := hI.has 5 17 rfl (hall ⟨5, .data⟩ (by simp) rfl)
        clear hI hall hnot hcl
        refine .inl ⟨wanted_none rfl, ?_⟩
        unfold Oper.wp
        go_simp
        obtain ⟨B, ⟨Bs, eg, hk, hlo2⟩, hf, hlo⟩ := G17
        rw [eg]
        go_simp
        refine (lib_Pair bA oA B 0 cx 1 Bs fx.length 1 fx [x] w3 rfl rfl (HP.out.1.turnF B1.out hC.1 (by omega)) hf hk (by omega) (by omega)).mono ?_
        rintro e w4 ⟨v4, cp, g, rfl, rfl, ho, hl, b4⟩
        have hz := hC.1.1
        exact ⟨_, rfl, Turn.of_below b4 _, ⟨cp, g, rfl, ho, by omega⟩, StC.step (k := 6) hC b4 hFin (by decide) (by rw [hlen]; decide), AP.new hA b4.size hl ho.1⟩
      · simp at hq; subst hq
        have g3 : act.tmps[3]?.getD undef = .pointer (some ⟨w.heap.size, 0, none⟩) := hI.kept 3 (by kernel_rfl)
        have hA2 := fun v => AP.other (k := 19) hA (by decide) v
        clear hI hall hnot hcl
        refine .inl ⟨wanted_none rfl, ?_⟩
        unfold Oper.wp
        go_simp
        all_goals exact ⟨_, rfl, Turn.refl _ _, rfl, StC.step (k := 7) hC (Below.refl _ _) hFin (by decide) (by rw [hlen]; decide), hA2 _⟩
      · simp at hq; subst hq
        have g19 : act.tmps[19]?.getD undef = .pointer (some ⟨w.heap.size, 1, none⟩) := hI.has 7 19 rfl (hall ⟨7, .data⟩ (by simp) rfl)
        have hA2 := fun v => AP.other (k := 20) hA (by decide) v
        clear hI hall hnot hcl
        refine .inl ⟨wanted_none rfl, ?_⟩
        unfold Oper.wp
        go_simp
        all_goals exact ⟨_, rfl, Turn.refl _ _, rfl, StC.step (k := 8) hC (Below.refl _ _) hFin (by decide) (by rw [hlen]; decide), hA2 _⟩
      · simp at hq; subst hq
        have g2 : act.tmps[2]?.getD undef = .float .f32 y := hI.kept 2 (by kernel_rfl)
        have hA2 := fun v => AP.other (k := 21) hA (by decide) v
        clear hI hall hnot hcl
        refine .inl ⟨wanted_none rfl, ?_⟩
        unfold Oper.wp
        go_simp
        all_goals exact ⟨_, rfl, Turn.refl _ _, rfl, StC.step (k := 9) hC (Below.refl _ _) hFin (by decide) (by rw [hlen]; decide), hA2 _⟩
      · simp at hq; subst hq
        have g21 : act.tmps[21]?.getD undef = .float .f32 y := hI.has 9 21 rfl (hall ⟨9, .data⟩ (by simp) rfl)
        have hA2 := fun v => AP.other (k := 22) hA (by decide) v
        clear hI hall hnot hcl
        refine .inl ⟨wanted_none rfl, ?_⟩
        unfold Oper.wp
        go_simp
        exact ⟨_, rfl, Turn.of_below ((Below.refl _ _).alloc (Nat.le_refl _) _) _, ⟨_, rfl, fl_one _ _ _, hC.1.1⟩, StC.step (k := 10) hC ((Below.refl _ _).alloc (Nat.le_refl _) _) hFin (by decide) (by rw [hlen]; decide), (hA2 _).grow (by simp)⟩
      · simp at hq; subst hq
        have g20 : act.tmps[20]?.getD undef = .slice (some ⟨bL, oL, none⟩) fy.length cy := hI.has 8 20 rfl (hall ⟨8, .data⟩ (by simp) rfl)
        have G22 := hI.has 10 22 rfl (hall ⟨10, .data⟩ (by simp) rfl)
        have hA2 := fun v => AP.other (k := 23) hA (by decide) v
        clear hI hall hnot hcl
        refine .inl ⟨wanted_none rfl, ?_⟩
        unfold Oper.wp
        go_simp
        obtain ⟨B, eg, hf, hlo⟩ := G22
        rw [eg]
        go_simp
        exact ⟨_, rfl, Turn.of_below ((Below.refl _ _).alloc (Nat.le_refl _) _) _, ⟨B, ⟨_, rfl, blkL_at _ #[_, _] _ rfl, hC.1.1⟩, hf.below ((Below.refl _ _).alloc (Nat.le_refl _) _), hlo⟩, StC.step (k := 11) hC ((Below.refl _ _).alloc (Nat.le_refl _) _) hFin (by decide) (by rw [hlen]; decide), (hA2 _).grow (by simp)⟩
      · simp at hq; subst hq
        have G23 := hI.has 11 23 rfl (hall ⟨11, .data⟩ (by simp) rfl)
        clear hI hall hnot hcl
        refine .inl ⟨wanted_none rfl, ?_⟩
        unfold Oper.wp
        go_simp
        obtain ⟨B, ⟨Bs, eg, hk, hlo2⟩, hf, hlo⟩ := G23
        rw [eg]
        go_simp
        refine (lib_Pair bL oL B 0 cy 1 Bs fy.length 1 fy [y] w3 rfl rfl (HP.out.2.turnF B1.out hC.1 (by omega)) hf hk (by omega) (by omega)).mono ?_
        rintro e w4 ⟨v4, cp, g, rfl, rfl, ho, hl, b4⟩
        have hz := hC.1.1
        exact ⟨_, rfl, Turn.of_below b4 _, ⟨cp, g, rfl, ho, by omega⟩, StC.step (k := 12) hC b4 hFin (by decide) (by rw [hlen]; decide), AP.new hA b4.size hl ho.1⟩
      · simp at hq; subst hq
        have g12 : act.tmps[12]?.getD undef = .agg #[.slice (some ⟨bA, oA, none⟩) fx.length cx, .slice (some ⟨bL, oL, none⟩) fy.length cy, .float .f32 fr, .float .f32 fd, .float .f32 fs] := hI.has 0 12 rfl (hall ⟨0, .data⟩ (by simp) rfl)
        have G18 := hI.has 6 18 rfl (hall ⟨6, .data⟩ (by simp) rfl)
        have G24 := hI.has 12 24 rfl (hall ⟨12, .data⟩ (by simp) rfl)
        have hA2 := fun v => AP.other (k := 25) hA (by decide) v
        clear hI hall hnot hcl
        refine .inl ⟨wanted_none rfl, ?_⟩
        unfold Oper.wp
        go_simp
        obtain ⟨cp6, bk6, e6, o6, l6⟩ := G18
        obtain ⟨cp12, bk12, e12, o12, l12⟩ := G24
        have ene := hA.2 18 (by decide) 24 (by decide) (by decide) _ _ _ _ _ _ _ _ (by rw [Array.getD_eq_getD_getElem?]; exact e6) (by rw [Array.getD_eq_getD_getElem?]; exact e12)
        rw [e6, e12]
        go_simp
        refine (i_withPl _ _ _ _ _ _ bk6 bk12 cp6 cp12 (fx.length + 1) (fy.length + 1) w1.heap.size fr fd fs (fx ++ [x]) (fy ++ [y]) O w3 HLX.out HLY.out o6 o12 l6 l12 ene (by have h1 := HLX.out; have h2 := HLY.out; have h3 := HSM.out; unfold FewS; omega) HO.out).mono ?_
        rintro e w4 ⟨v4, rfl, ho, b4⟩
        exact ⟨_, rfl, Turn.of_below b4 _, ho, StC.step (k := 13) hC b4 hFin (by decide) (by rw [hlen]; decide), (hA2 _).grow b4.size⟩
      · simp at hq; subst hq
        have G25 := hI.has 13 25 rfl (hall ⟨13, .data⟩ (by simp) rfl)
        have hA2 := fun v => AP.other (k := 26) hA (by decide) v
        clear hI hall hnot hcl
        refine .inl ⟨wanted_none rfl, ?_⟩
        unfold Oper.wp
        go_simp
        obtain ⟨Ra, Rb, da, db, ka, kb, eg, hg⟩ := G25
        rw [eg]
        go_simp
        exact ⟨_, rfl, Turn.refl _ _, ⟨Ra, Rb, da, db, ka, kb, rfl, hg⟩, StC.step (k := 14) hC (Below.refl _ _) hFin (by decide) (by rw [hlen]; decide), hA2 _⟩
      · simp at hq; subst hq
        have G25 := hI.has 13 25 rfl (hall ⟨13, .data⟩ (by simp) rfl)
        have hA2 := fun v => AP.other (k := 27) hA (by decide) v
        clear hI hall hnot hcl
        refine .inl ⟨wanted_none rfl, ?_⟩
        unfold Oper.wp
        go_simp
        obtain ⟨Ra, Rb, da, db, ka, kb, eg, hg⟩ := G25
        rw [eg]
        go_simp
        exact ⟨_, rfl, Turn.refl _ _, rfl, StC.step (k := 15) hC (Below.refl _ _) hFin (by decide) (by rw [hlen]; decide), hA2 _⟩
      · simp at hq; subst hq
        have g6 : act.tmps[6]?.getD undef = .pointer (some ⟨(w.heap.size + 1), 0, none⟩) := hI.kept 6 (by kernel_rfl)
        have G26 := hI.has 14 26 rfl (hall ⟨14, .data⟩ (by simp) rfl)
        have hA2 := fun v => AP.skip hA v
        clear hI hall hnot hcl
        refine .inl ⟨wanted_none rfl, ?_⟩
        unfold Oper.wp
        go_simp
        obtain ⟨Ra, Rb, da, db, ka, kb, eg, hg⟩ := G26
        rw [eg]
        obtain ⟨vs, hvs, hvl⟩ := hC.2.1
        match vs, hvs, hvl with
        | [a0, a1, a2, a3, a4], hvs, _ =>
        have p0 := (hvs.2 0 _ rfl).1
        have q0 := (hvs.2 0 _ rfl).2
        have p1 := (hvs.2 1 _ rfl).1
        have q1 := (hvs.2 1 _ rfl).2
        have p2 := (hvs.2 2 _ rfl).1
        have q2 := (hvs.2 2 _ rfl).2
        have p3 := (hvs.2 3 _ rfl).1
        have q3 := (hvs.2 3 _ rfl).2
        have p4 := (hvs.2 4 _ rfl).1
        have q4 := (hvs.2 4 _ rfl).2
        go_simp
        have hf := (((((hvs.set (i := 0) (by simp) (.slice Ra (gL O (fx ++ [x])).length da)).set (i := 1) (by simp) (.slice Rb (gL O (fy ++ [y])).length db)).set (i := 2) (by simp) (.float .f32 (gF O fr))).set (i := 3) (by simp) (.float .f32 (gF O fd))).set (i := 4) (by simp) (.float .f32 (gF O fs)))
        have ht := (((((Turn.set w3 (B := (w.heap.size + 1)) ⟨(w.heap.size + 1), 0, none⟩ rfl (.slice Ra (gL O (fx ++ [x])).length da)).trans (Turn.set _ (B := (w.heap.size + 1)) ⟨(w.heap.size + 1), 1, none⟩ rfl (.slice Rb (gL O (fy ++ [y])).length db))).trans (Turn.set _ (B := (w.heap.size + 1)) ⟨(w.heap.size + 1), 2, none⟩ rfl (.float .f32 (gF O fr)))).trans (Turn.set _ (B := (w.heap.size + 1)) ⟨(w.heap.size + 1), 3, none⟩ rfl (.float .f32 (gF O fd)))).trans (Turn.set _ (B := (w.heap.size + 1)) ⟨(w.heap.size + 1), 4, none⟩ rfl (.float .f32 (gF O fs))))
        have hn := (((((hg.setB (p := ⟨(w.heap.size + 1), 0, none⟩) (by show (w.heap.size + 1) < _; omega) (.slice Ra (gL O (fx ++ [x])).length da)).setB (p := ⟨(w.heap.size + 1), 1, none⟩) (by show (w.heap.size + 1) < _; omega) (.slice Rb (gL O (fy ++ [y])).length db)).setB (p := ⟨(w.heap.size + 1), 2, none⟩) (by show (w.heap.size + 1) < _; omega) (.float .f32 (gF O fr))).setB (p := ⟨(w.heap.size + 1), 3, none⟩) (by show (w.heap.size + 1) < _; omega) (.float .f32 (gF O fd))).setB (p := ⟨(w.heap.size + 1), 4, none⟩) (by show (w.heap.size + 1) < _; omega) (.float .f32 (gF O fs)))
        have hst := StC.store (st := 16) hC ht hf rfl ⟨Ra, Rb, da, db, ka, kb, hf, hn⟩
        have hap := (hA2 undef).grow ht.1
        first | exact ⟨ht, trivial, hst, hap⟩ | exact ⟨ht, hst, hap⟩
      · simp at hq; subst hq
        have g27 : act.tmps[27]?.getD undef = .bool O := hI.has 15 27 rfl (hall ⟨15, .data⟩ (by simp) rfl)
        have hA2 := fun v => AP.other (k := 7) hA (by decide) v
        clear hI hall hnot hcl
        refine .inl ⟨wanted_none rfl, ?_⟩
        unfold Oper.wp
        go_simp
        all_goals exact ⟨_, rfl, Turn.refl _ _, rfl, StC.step (k := 17) hC (Below.refl _ _) hFin (by decide) (by rw [hlen]; decide), hA2 _⟩
      · simp at hq
    case hend =>
      intro listed act w3 hI hCA hall
      obtain ⟨hC, hA⟩ := hCA
      have hlen : listed.size = 18 := hI.len
      obtain ⟨kx0, kx1, kx2, kx3, kx4⟩ := (L0.out.turnS hC.1 (by intro e; omega)).five
      obtain ⟨Ra, Rb, da, db, ka, kb, hf, hown⟩ := hC.2.2 (hall 16 (by decide))
      have ht := hC.1
      have g6 : act.tmps[6]?.getD undef = .pointer (some ⟨(w.heap.size + 1), 0, none⟩) := hI.kept 6 (by kernel_rfl)
      have g7 : act.tmps[7]?.getD undef = .bool O := hI.has 17 7 rfl (hall 17 (by decide))
      have hd := hI.defers
      clear hI hall hFin hC hA
      have c0 := (hf.2 0 _ rfl).1
      have c1 := (hf.2 1 _ rfl).1
      have c2 := (hf.2 2 _ rfl).1
      have c3 := (hf.2 3 _ rfl).1
      have c4 := (hf.2 4 _ rfl).1
      go_wp2
      refine bodyPost_ret (v := .tuple #[.agg #[.slice Ra (gL O (fx ++ [x])).length da, .slice Rb (gL O (fy ++ [y])).length db, .float .f32 (gF O fr), .float .f32 (gF O fd), .float .f32 (gF O fs)], .bool O]) (by simp [results, Try.results52, g6, g7, c0, c1, c2, c3, c4, go_sem]) (by first | rfl | exact hd) ?_
      have hbw := ht.2.2.2 w B1.out (fun b hb => by have hb : b = (w.heap.size + 1) := hb; omega)
      first | exact ⟨Ra, Rb, da, db, ka, kb, rfl, hown.baseB B1.out.size, hbw⟩ | exact ⟨Ra, Rb, ⟨da, db, rfl⟩, ⟨ka, kb, hown.baseB B1.out.size⟩, hbw⟩
end Go.Proofs.Ytiiiigldpbomkaa
