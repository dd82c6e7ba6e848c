/- MixRoses: the program. No statement is proved here. -/
import Derived.Test.YtahbcpjipomcgaaMxrM
import Derived.Test.YtahbcpjipomcgaaInv7
import Derived.Test.YtahbcpjipomcgaaStC
import Derived.Deep.Cut
namespace Go.Proofs.Ytahbcpjipomcgaa
open Go Go.RowKit
theorem OwnR2.turnR {w w' : World} {RB B0 b1 b2 : Nat} {A L : Option Addr} {a l : List Nat} (h : OwnR2 w B0 A L b1 b2 a l) (ht : Turn w w' (fun b => b = RB)) (hb : RB < B0) : OwnR2 w' B0 A L b1 b2 a l := ⟨h.1.turnB ht hb, h.2.1.turnB ht hb, h.2.2⟩
theorem OwnO.setR {w : World} {B0 b : Nat} {A : Option Addr} {xs : List Nat} (h : OwnO w B0 A b xs) {p : Addr} (hp : p.block < B0) (v : Value) : OwnO (w.setCell p v) B0 A b xs := by
  rcases h with h | ⟨h1, h2, h3⟩
  · exact .inl h
  · exact .inr ⟨h1, h2, h3.setCell (by omega) v⟩
theorem OwnO.baseR {w : World} {B0 B b : Nat} {A : Option Addr} {xs : List Nat} (h : OwnO w B0 A b xs) (hB : B ≤ B0) : OwnO w B A b xs := by
  rcases h with h | ⟨h1, h2, h3⟩
  · exact .inl h
  · exact .inr ⟨h1, Nat.le_trans hB h2, h3⟩
theorem OwnR2.setR {w : World} {B0 b1 b2 : Nat} {A L : Option Addr} {a l : List Nat} (h : OwnR2 w B0 A L b1 b2 a l) {p : Addr} (hp : p.block < B0) (v : Value) : OwnR2 (w.setCell p v) B0 A L b1 b2 a l := ⟨h.1.setR hp v, h.2.1.setR hp v, h.2.2⟩
theorem OwnR2.baseR {w : World} {B0 B b1 b2 : Nat} {A L : Option Addr} {a l : List Nat} (h : OwnR2 w B0 A L b1 b2 a l) (hB : B ≤ B0) : OwnR2 w B A L b1 b2 a l := ⟨h.1.baseR hB, h.2.1.baseR hB, h.2.2⟩
theorem Fl.turnR {w w1 w3 : World} {RB : Nat} {A : Option Addr} {xs : List Nat} (h : Fl w A xs) (hb : Below w.heap.size w w1) (ht : Turn w1 w3 (fun b => b = RB)) (hr : w.heap.size ≤ RB) : Fl w3 A xs := by
  rcases h with h | ⟨b, o, e, h1, h2⟩
  · exact .inl h
  · refine .inr ⟨b, o, e, Nat.lt_of_lt_of_le (Nat.lt_of_lt_of_le h1 hb.size) ht.1, fun k hk => ?_⟩
    rw [ht.2.1 ⟨b, o + k, none⟩ (Nat.lt_of_lt_of_le h1 hb.size) (by show b ≠ RB; omega), hb.cell (p := ⟨b, o + k, none⟩) h1]
    exact h2 k hk
/-- a list that was made, told up to canon -/
def RNew (B0 : Nat) (X : List Nat) (W : World) (v : Value) : Prop := ∃ (cp bk : Nat) (xs : List Nat), v = .slice (some ⟨bk, 0, none⟩) xs.length cp ∧ Own W bk xs ∧ B0 ≤ bk ∧ CL xs X
theorem RNew.turn {B0 RB : Nat} {X : List Nat} {W W' : World} {v : Value} (h : RNew B0 X W v) (ht : Turn W W' (fun b => b = RB)) (hb : RB < B0) : RNew B0 X W' v := by
  obtain ⟨cp, bk, xs, rfl, h1, h2, h3⟩ := h
  exact ⟨cp, bk, xs, rfl, h1.turn ht (by show ¬ bk = RB; omega), h2, h3⟩
/-- a rose that was made, told up to canon -/
def RRaw (B0 : Nat) (X Y : List Nat) (W : World) (v : Value) : Prop := ∃ (Ra Rb : Option Addr) (da db ka kb : Nat) (xs ys : List Nat), v = .agg #[.slice Ra xs.length da, .slice Rb ys.length db] ∧ OwnR2 W B0 Ra Rb ka kb xs ys ∧ CL xs X ∧ CL ys Y
theorem RRaw.turn {B0 RB : Nat} {X Y : List Nat} {W W' : World} {v : Value} (h : RRaw B0 X Y W v) (ht : Turn W W' (fun b => b = RB)) (hb : RB < B0) : RRaw B0 X Y W' v := by
  obtain ⟨Ra, Rb, da, db, ka, kb, xs, ys, rfl, h1, h2⟩ := h
  exact ⟨Ra, Rb, da, db, ka, kb, xs, ys, rfl, h1.turnR ht hb, h2⟩
/-- a rose that is told, with whether it is one -/
def WGiv (B0 : Nat) (O : Bool) (X Y : List Nat) (W : World) (v : Value) : Prop :=
  ∃ (Ra Rb : Option Addr) (da db ka kb : Nat), v = .tuple #[.agg #[.slice Ra (gLn O X).length da, .slice Rb (gLn O Y).length db], .bool O] ∧ OwnR2 W B0 Ra Rb ka kb (gLn O X) (gLn O Y)
def WAgg (B0 : Nat) (O : Bool) (X Y : List Nat) (W : World) (v : Value) : Prop :=
  ∃ (Ra Rb : Option Addr) (da db ka kb : Nat), v = .agg #[.slice Ra (gLn O X).length da, .slice Rb (gLn O Y).length db] ∧ OwnR2 W B0 Ra Rb ka kb (gLn O X) (gLn O Y)
theorem WGiv.turn {B0 RB : Nat} {O : Bool} {X Y : List Nat} {W W' : World} {v : Value} (h : WGiv B0 O X Y W v) (ht : Turn W W' (fun b => b = RB)) (hb : RB < B0) : WGiv B0 O X Y W' v := by
  obtain ⟨Ra, Rb, da, db, ka, kb, rfl, h⟩ := h
  exact ⟨Ra, Rb, da, db, ka, kb, rfl, h.turnR ht hb⟩
theorem WAgg.turn {B0 RB : Nat} {O : Bool} {X Y : List Nat} {W W' : World} {v : Value} (h : WAgg B0 O X Y W v) (ht : Turn W W' (fun b => b = RB)) (hb : RB < B0) : WAgg B0 O X Y W' v := by
  obtain ⟨Ra, Rb, da, db, ka, kb, rfl, h⟩ := h
  exact ⟨Ra, Rb, da, db, ka, kb, rfl, h.turnR ht hb⟩
def WFin (RB B0 : Nat) (O : Bool) (X Y : List Nat) (W : World) : Prop :=
  ∃ (Ra Rb : Option Addr) (da db ka kb : Nat), BlkL W RB [.slice Ra (gLn O X).length da, .slice Rb (gLn O Y).length db] ∧ OwnR2 W B0 Ra Rb ka kb (gLn O X) (gLn O Y)
theorem WFin.below (RB B0 : Nat) (O : Bool) (X Y : List Nat) : ∀ wa wb : World, Below wa.heap.size wa wb → WFin RB B0 O X Y wa → WFin RB B0 O X Y wb := by
  rintro wa wb hb ⟨Ra, Rb, da, db, ka, kb, h1, h2⟩
  exact ⟨Ra, Rb, da, db, ka, kb, h1.below hb, h2.below hb⟩
theorem i_GiveRQ (R1 R2 : Option Addr) (d1 d2 b1 b2 B0 : Nat) (xs ys X Y : List Nat) (O : Bool) (w : World) (h : OwnR2 w B0 R1 R2 b1 b2 xs ys) (c1 : CL xs X) (c2 : CL ys Y) (hO : O = rosV X Y) (hn : FewS xs ys) :
    Calls Try.prog 36 #[.agg #[.slice R1 xs.length d1, .slice R2 ys.length d2]] w fun e w' => ∃ u, e = .returned u ∧ WGiv B0 O X Y w' u ∧ Below w.heap.size w w' := by
  have hv := rosV_CL c1 c2
  cases v : rosV X Y
  · refine (i_GiveR_no R1 R2 d1 d2 xs ys w h.fl hn (by rw [hv, v])).mono ?_
    rintro e w' ⟨rfl, hb⟩
    rw [hO, v]
    exact ⟨_, rfl, ⟨none, none, 0, 0, 0, 1, rfl, .inl rfl, .inl rfl, by decide⟩, hb⟩
  · have v' : rosV xs ys = true := by rw [hv, v]
    have e1 : xs = X := c1.eq (amtsIsnR (rosV_amts v').1)
    have e2 : ys = Y := c2.eq (amtsIsnR (rosV_amts v').2)
    subst e1 e2
    refine (i_GiveR_yes R1 R2 d1 d2 xs ys w h.fl hn v).mono ?_
    rintro e w' ⟨rfl, hb⟩
    rw [hO, v]
    exact ⟨_, rfl, ⟨R1, R2, d1, d2, b1, b2, rfl, h.below hb⟩, hb⟩
set_option maxHeartbeats 16000000 in
set_option maxRecDepth 100000 in
theorem i_MixRoses_ne (A L B M : Option Addr) (ca cl cb cm : Nat) (a l b m : List Nat) (u : Nat) (w : World) (h : Rs w A L a l) (hn : FewS a l) (h' : Rs w B M b m) (hn' : FewS b m) (HAB : Hid (a.length ≠ b.length)) :
    Calls Try.prog 10 #[.agg #[.slice A a.length ca, .slice L l.length cl], .agg #[.slice B b.length cb, .slice M m.length cm], .float .f32 u] w fun e w' => ∃ (R1 R2 : Option Addr) (c1 c2 g1 g2 : Nat), e = .returned (.tuple #[.agg #[.slice R1 (gLn (mgO a l b m u) (mxL a b u)).length c1, .slice R2 (gLn (mgO a l b m u) (mxL l m u)).length c2], .bool (mgO a l b m u)]) ∧ OwnR2 w' w.heap.size R1 R2 g1 g2 (gLn (mgO a l b m u) (mxL a b u)) (gLn (mgO a l b m u) (mxL l m u)) ∧ Below w.heap.size w w' := by
  have HP := Lib.hid h
  have HQ := Lib.hid h'
  have HNF := Lib.hid hn
  have HNG := Lib.hid hn'
  clear h h' hn hn'
  obtain ⟨w0, hw0⟩ : ∃ x, x = (((w.alloc (.cells #[.slice A a.length ca, .slice L l.length cl] 27)).alloc (.cells #[.slice B b.length cb, .slice M m.length cm] 27)).alloc (.cells #[.float .f32 u] 25)).alloc (.cells #[.slice none 0 0, .slice none 0 0] 27) := ⟨_, rfl⟩
  have K0 : Hid (BlkL w0 w.heap.size [.slice A a.length ca, .slice L l.length cl]) := Lib.hid (by rw [hw0]; exact (((blkL_at w #[.slice A a.length ca, .slice L l.length cl] _ rfl).alloc _).alloc _).alloc _)
  have J0 : Hid (BlkL w0 (w.heap.size + 1) [.slice B b.length cb, .slice M m.length cm]) := Lib.hid (by rw [hw0]; exact ((blkL_at (w.alloc _) #[.slice B b.length cb, .slice M m.length cm] _ (by simp)).alloc _).alloc _)
  have U0 : Hid (BlkL w0 (w.heap.size + 2) [.float .f32 u]) := Lib.hid (by rw [hw0]; exact (blkL_at ((w.alloc _).alloc _) #[.float .f32 u] _ (by simp)).alloc _)
  have R0 : Hid (BlkL w0 (w.heap.size + 3) [.slice none 0 0, .slice none 0 0]) := Lib.hid (by rw [hw0]; exact blkL_at (((w.alloc _).alloc _).alloc _) #[.slice none 0 0, .slice none 0 0] _ (by simp))
  have B0 : Hid (Below w.heap.size w w0) := Lib.hid (by rw [hw0]; exact ((((Below.refl _ _).alloc (Nat.le_refl _) _).alloc (by simp) _).alloc (by simp <;> omega) _).alloc (by simp <;> omega) _)
  have Z0 : Hid (w.heap.size + 4 ≤ w0.heap.size) := Lib.hid (by rw [hw0]; simp)
  obtain ⟨k0, k1⟩ := K0.out.two
  obtain ⟨O, hO⟩ : ∃ x, x = mgO a l b m u := ⟨_, rfl⟩
  rw [← hO]
  have HGO := Lib.hid hO
  clear hO
  go_enter Try.func10, Try.ntmps10
  go_upto_region 1 with fail
  rw [← hw0]
  clear hw0
  go_wp2_with fail
  refine (i_ValidRose A L ca cl a l _ (HP.out.below B0.out) HNF.out).mono ?_
  rintro e w1 ⟨rfl, b1⟩
  clear k0 k1
  have B1 : Hid (Below w.heap.size w w1) := Lib.hid (below_of B0.out B0.out.size b1)
  have K1 : Hid (BlkL w1 w.heap.size [.slice A a.length ca, .slice L l.length cl]) := Lib.hid (K0.out.below b1)
  have J1 : Hid (BlkL w1 (w.heap.size + 1) [.slice B b.length cb, .slice M m.length cm]) := Lib.hid (J0.out.below b1)
  have U1 : Hid (BlkL w1 (w.heap.size + 2) [.float .f32 u]) := Lib.hid (U0.out.below b1)
  have R1 : Hid (BlkL w1 (w.heap.size + 3) [.slice none 0 0, .slice none 0 0]) := Lib.hid (R0.out.below b1)
  have Z1 : Hid (w.heap.size + 4 ≤ w1.heap.size) := Lib.hid (by have := b1.size; have := Z0.out; omega)
  clear b1
  cases v : rosV a l
  · skip
    have HN : Hid (O = false) := Lib.hid (HGO.out.trans (mgO_a v))
    have p0 := (R1.out.2 0 _ rfl).1
    have q0 := (R1.out.2 0 _ rfl).2
    have p1 := (R1.out.2 1 _ rfl).1
    have q1 := (R1.out.2 1 _ rfl).2
    go_wp2
    refine bodyPost_ret (v := .tuple #[.agg #[.slice none 0 0, .slice none 0 0], .bool false]) ?_ rfl ?_
    · simp [results, Try.results10, go_sem, p0, p1]
    · rw [HN.out]
      exact ⟨none, none, 0, 0, 0, 1, rfl, ⟨.inl rfl, .inl rfl, by decide⟩, ((B1.out).setCell (p := ⟨w.heap.size + 3, 0, none⟩) (by show w.heap.size ≤ w.heap.size + 3; omega) _).setCell (p := ⟨w.heap.size + 3, 1, none⟩) (by show w.heap.size ≤ w.heap.size + 3; omega) _⟩
  · have V := Lib.hid v
    clear v
    obtain ⟨j0, j1⟩ := J1.out.two
    go_wp2_with fail
    refine (i_ValidRose B M cb cm b m _ (HQ.out.below B1.out) HNG.out).mono ?_
    rintro e w2 ⟨rfl, b2⟩
    clear j0 j1
    have B2 : Hid (Below w.heap.size w w2) := Lib.hid (below_of B1.out B1.out.size b2)
    have K2 : Hid (BlkL w2 w.heap.size [.slice A a.length ca, .slice L l.length cl]) := Lib.hid (K1.out.below b2)
    have J2 : Hid (BlkL w2 (w.heap.size + 1) [.slice B b.length cb, .slice M m.length cm]) := Lib.hid (J1.out.below b2)
    have U2 : Hid (BlkL w2 (w.heap.size + 2) [.float .f32 u]) := Lib.hid (U1.out.below b2)
    have R2 : Hid (BlkL w2 (w.heap.size + 3) [.slice none 0 0, .slice none 0 0]) := Lib.hid (R1.out.below b2)
    have Z2 : Hid (w.heap.size + 4 ≤ w2.heap.size) := Lib.hid (by have := b2.size; have := Z1.out; omega)
    clear b2
    cases v : rosV b m
    · skip
      have HN : Hid (O = false) := Lib.hid (HGO.out.trans (mgO_b v))
      have p0 := (R2.out.2 0 _ rfl).1
      have q0 := (R2.out.2 0 _ rfl).2
      have p1 := (R2.out.2 1 _ rfl).1
      have q1 := (R2.out.2 1 _ rfl).2
      go_wp2
      refine bodyPost_ret (v := .tuple #[.agg #[.slice none 0 0, .slice none 0 0], .bool false]) ?_ rfl ?_
      · simp [results, Try.results10, go_sem, p0, p1]
      · rw [HN.out]
        exact ⟨none, none, 0, 0, 0, 1, rfl, ⟨.inl rfl, .inl rfl, by decide⟩, ((B2.out).setCell (p := ⟨w.heap.size + 3, 0, none⟩) (by show w.heap.size ≤ w.heap.size + 3; omega) _).setCell (p := ⟨w.heap.size + 3, 1, none⟩) (by show w.heap.size ≤ w.heap.size + 3; omega) _⟩
    · have V2 := Lib.hid v
      clear v
      obtain ⟨k0, k1⟩ := K2.out.two
      obtain ⟨j0, j1⟩ := J2.out.two
      have u0 := U2.out.oneP
      have hab := HAB.out
      have HN : Hid (O = false) := Lib.hid (HGO.out.trans (mgO_n HAB.out))
      have p0 := (R2.out.2 0 _ rfl).1
      have q0 := (R2.out.2 0 _ rfl).2
      have p1 := (R2.out.2 1 _ rfl).1
      have q1 := (R2.out.2 1 _ rfl).2
      go_wp2
      refine bodyPost_ret (v := .tuple #[.agg #[.slice none 0 0, .slice none 0 0], .bool false]) ?_ rfl ?_
      · simp [results, Try.results10, go_sem, p0, p1]
      · rw [HN.out]
        exact ⟨none, none, 0, 0, 0, 1, rfl, ⟨.inl rfl, .inl rfl, by decide⟩, ((B2.out).setCell (p := ⟨w.heap.size + 3, 0, none⟩) (by show w.heap.size ≤ w.heap.size + 3; omega) _).setCell (p := ⟨w.heap.size + 3, 1, none⟩) (by show w.heap.size ≤ w.heap.size + 3; omega) _⟩
set_option maxHeartbeats 16000000 in
set_option maxRecDepth 100000 in
theorem i_MixRoses_eq (A L B M : Option Addr) (ca cl cb cm : Nat) (a l b m : List Nat) (u : Nat) (w : World) (h : Rs w A L a l) (hn : FewS a l) (h' : Rs w B M b m) (hn' : FewS b m) (HB : Hid (b.length = a.length)) :
    Calls Try.prog 10 #[.agg #[.slice A a.length ca, .slice L l.length cl], .agg #[.slice B a.length cb, .slice M m.length cm], .float .f32 u] w fun e w' => ∃ (R1 R2 : Option Addr) (c1 c2 g1 g2 : Nat), e = .returned (.tuple #[.agg #[.slice R1 (gLn (mgO a l b m u) (mxL a b u)).length c1, .slice R2 (gLn (mgO a l b m u) (mxL l m u)).length c2], .bool (mgO a l b m u)]) ∧ OwnR2 w' w.heap.size R1 R2 g1 g2 (gLn (mgO a l b m u) (mxL a b u)) (gLn (mgO a l b m u) (mxL l m u)) ∧ Below w.heap.size w w' := by
  have HP := Lib.hid h
  have HQ := Lib.hid h'
  have HNF := Lib.hid hn
  have HNG := Lib.hid hn'
  clear h h' hn hn'
  obtain ⟨w0, hw0⟩ : ∃ x, x = (((w.alloc (.cells #[.slice A a.length ca, .slice L l.length cl] 27)).alloc (.cells #[.slice B a.length cb, .slice M m.length cm] 27)).alloc (.cells #[.float .f32 u] 25)).alloc (.cells #[.slice none 0 0, .slice none 0 0] 27) := ⟨_, rfl⟩
  have K0 : Hid (BlkL w0 w.heap.size [.slice A a.length ca, .slice L l.length cl]) := Lib.hid (by rw [hw0]; exact (((blkL_at w #[.slice A a.length ca, .slice L l.length cl] _ rfl).alloc _).alloc _).alloc _)
  have J0 : Hid (BlkL w0 (w.heap.size + 1) [.slice B a.length cb, .slice M m.length cm]) := Lib.hid (by rw [hw0]; exact ((blkL_at (w.alloc _) #[.slice B a.length cb, .slice M m.length cm] _ (by simp)).alloc _).alloc _)
  have U0 : Hid (BlkL w0 (w.heap.size + 2) [.float .f32 u]) := Lib.hid (by rw [hw0]; exact (blkL_at ((w.alloc _).alloc _) #[.float .f32 u] _ (by simp)).alloc _)
  have R0 : Hid (BlkL w0 (w.heap.size + 3) [.slice none 0 0, .slice none 0 0]) := Lib.hid (by rw [hw0]; exact blkL_at (((w.alloc _).alloc _).alloc _) #[.slice none 0 0, .slice none 0 0] _ (by simp))
  have B0 : Hid (Below w.heap.size w w0) := Lib.hid (by rw [hw0]; exact ((((Below.refl _ _).alloc (Nat.le_refl _) _).alloc (by simp) _).alloc (by simp <;> omega) _).alloc (by simp <;> omega) _)
  have Z0 : Hid (w.heap.size + 4 ≤ w0.heap.size) := Lib.hid (by rw [hw0]; simp)
  obtain ⟨k0, k1⟩ := K0.out.two
  obtain ⟨O, hO⟩ : ∃ x, x = mgO a l b m u := ⟨_, rfl⟩
  rw [← hO]
  have HGO := Lib.hid hO
  clear hO
  go_enter Try.func10, Try.ntmps10
  go_upto_region 1 with fail
  rw [← hw0]
  clear hw0
  go_wp2_with fail
  refine (i_ValidRose A L ca cl a l _ (HP.out.below B0.out) HNF.out).mono ?_
  rintro e w1 ⟨rfl, b1⟩
  clear k0 k1
  have B1 : Hid (Below w.heap.size w w1) := Lib.hid (below_of B0.out B0.out.size b1)
  have K1 : Hid (BlkL w1 w.heap.size [.slice A a.length ca, .slice L l.length cl]) := Lib.hid (K0.out.below b1)
  have J1 : Hid (BlkL w1 (w.heap.size + 1) [.slice B a.length cb, .slice M m.length cm]) := Lib.hid (J0.out.below b1)
  have U1 : Hid (BlkL w1 (w.heap.size + 2) [.float .f32 u]) := Lib.hid (U0.out.below b1)
  have R1 : Hid (BlkL w1 (w.heap.size + 3) [.slice none 0 0, .slice none 0 0]) := Lib.hid (R0.out.below b1)
  have Z1 : Hid (w.heap.size + 4 ≤ w1.heap.size) := Lib.hid (by have := b1.size; have := Z0.out; omega)
  clear b1
  cases v : rosV a l
  · skip
    have HN : Hid (O = false) := Lib.hid (HGO.out.trans (mgO_a v))
    have p0 := (R1.out.2 0 _ rfl).1
    have q0 := (R1.out.2 0 _ rfl).2
    have p1 := (R1.out.2 1 _ rfl).1
    have q1 := (R1.out.2 1 _ rfl).2
    go_wp2
    refine bodyPost_ret (v := .tuple #[.agg #[.slice none 0 0, .slice none 0 0], .bool false]) ?_ rfl ?_
    · simp [results, Try.results10, go_sem, p0, p1]
    · rw [HN.out]
      exact ⟨none, none, 0, 0, 0, 1, rfl, ⟨.inl rfl, .inl rfl, by decide⟩, ((B1.out).setCell (p := ⟨w.heap.size + 3, 0, none⟩) (by show w.heap.size ≤ w.heap.size + 3; omega) _).setCell (p := ⟨w.heap.size + 3, 1, none⟩) (by show w.heap.size ≤ w.heap.size + 3; omega) _⟩
  · have V := Lib.hid v
    clear v
    obtain ⟨j0, j1⟩ := J1.out.two
    go_wp2_with fail
    have hvv := i_ValidRose B M cb cm b m w1 (HQ.out.below B1.out) HNG.out
    rw [HB.out] at hvv
    refine hvv.mono ?_
    clear hvv
    rintro e w2 ⟨rfl, b2⟩
    clear j0 j1
    have B2 : Hid (Below w.heap.size w w2) := Lib.hid (below_of B1.out B1.out.size b2)
    have K2 : Hid (BlkL w2 w.heap.size [.slice A a.length ca, .slice L l.length cl]) := Lib.hid (K1.out.below b2)
    have J2 : Hid (BlkL w2 (w.heap.size + 1) [.slice B a.length cb, .slice M m.length cm]) := Lib.hid (J1.out.below b2)
    have U2 : Hid (BlkL w2 (w.heap.size + 2) [.float .f32 u]) := Lib.hid (U1.out.below b2)
    have R2 : Hid (BlkL w2 (w.heap.size + 3) [.slice none 0 0, .slice none 0 0]) := Lib.hid (R1.out.below b2)
    have Z2 : Hid (w.heap.size + 4 ≤ w2.heap.size) := Lib.hid (by have := b2.size; have := Z1.out; omega)
    clear b2
    cases v : rosV b m
    · skip
      have HN : Hid (O = false) := Lib.hid (HGO.out.trans (mgO_b v))
      have p0 := (R2.out.2 0 _ rfl).1
      have q0 := (R2.out.2 0 _ rfl).2
      have p1 := (R2.out.2 1 _ rfl).1
      have q1 := (R2.out.2 1 _ rfl).2
      go_wp2
      refine bodyPost_ret (v := .tuple #[.agg #[.slice none 0 0, .slice none 0 0], .bool false]) ?_ rfl ?_
      · simp [results, Try.results10, go_sem, p0, p1]
      · rw [HN.out]
        exact ⟨none, none, 0, 0, 0, 1, rfl, ⟨.inl rfl, .inl rfl, by decide⟩, ((B2.out).setCell (p := ⟨w.heap.size + 3, 0, none⟩) (by show w.heap.size ≤ w.heap.size + 3; omega) _).setCell (p := ⟨w.heap.size + 3, 1, none⟩) (by show w.heap.size ≤ w.heap.size + 3; omega) _⟩
    · have V2 := Lib.hid v
      clear v
      obtain ⟨k0, k1⟩ := K2.out.two
      obtain ⟨j0, j1⟩ := J2.out.two
      have u0 := U2.out.oneP
      go_wp2_with fail
      refine (i_isWithin _ _ _ _).mono ?_
      rintro e w2 ⟨rfl, rfl⟩
      cases v : within u 0 1065353216
      · skip
        clear k0 k1 j0 j1 u0
        have HN : Hid (O = false) := Lib.hid (HGO.out.trans (mgO_u v))
        have p0 := (R2.out.2 0 _ rfl).1
        have q0 := (R2.out.2 0 _ rfl).2
        have p1 := (R2.out.2 1 _ rfl).1
        have q1 := (R2.out.2 1 _ rfl).2
        go_wp2
        refine bodyPost_ret (v := .tuple #[.agg #[.slice none 0 0, .slice none 0 0], .bool false]) ?_ rfl ?_
        · simp [results, Try.results10, go_sem, p0, p1]
        · rw [HN.out]
          exact ⟨none, none, 0, 0, 0, 1, rfl, ⟨.inl rfl, .inl rfl, by decide⟩, ((B2.out).setCell (p := ⟨w.heap.size + 3, 0, none⟩) (by show w.heap.size ≤ w.heap.size + 3; omega) _).setCell (p := ⟨w.heap.size + 3, 1, none⟩) (by show w.heap.size ≤ w.heap.size + 3; omega) _⟩
      · have V3 := Lib.hid v
        clear v
        obtain ⟨s1, s2, s3⟩ := rosV_sized V.out
        obtain ⟨s1', s2', s3'⟩ := rosV_sized V2.out
        have hbl := HB.out
        have HOK : Hid (mgO a l b m u = rosV (mxL a b u) (mxL l m u)) := Lib.hid (mgO_yes V.out V2.out HB.out.symm V3.out)
        have HCA : Hid (∀ W, Fl W A a → Fl W B b → BlkL W (w.heap.size + 2) [.float .f32 u] → Calls Try.prog 32 #[.slice A a.length ca, .slice B a.length cb, .pointer (some ⟨w.heap.size + 2, 0, none⟩)] W fun e w' => ∃ c g zs, e = .returned (.slice (some ⟨g, 0, none⟩) zs.length c) ∧ Own w' g zs ∧ W.heap.size ≤ g ∧ CL zs (mxL a b u) ∧ Below W.heap.size W w') := Lib.hid (fun W f1 f2 f3 => i_mixed A B a.length a.length ca cb u (w.heap.size + 2) a b W f1 f2 (by omega) hbl rfl rfl f3)
        have HCL : Hid (∀ W, Fl W L l → Fl W M m → BlkL W (w.heap.size + 2) [.float .f32 u] → Calls Try.prog 32 #[.slice L l.length cl, .slice M m.length cm, .pointer (some ⟨w.heap.size + 2, 0, none⟩)] W fun e w' => ∃ c g zs, e = .returned (.slice (some ⟨g, 0, none⟩) zs.length c) ∧ Own w' g zs ∧ W.heap.size ≤ g ∧ CL zs (mxL l m u) ∧ Below W.heap.size W w') := Lib.hid (fun W f1 f2 f3 => i_mixed L M l.length m.length cl cm u (w.heap.size + 2) l m W f1 f2 (by omega) (by omega) rfl (by omega) f3)
        have HSZ : Hid (a.length ≤ 16) := Lib.hid s2
        have HLL : Hid (l.length = a.length) := Lib.hid s3
        clear s1 s2 s3 s1' s2' s3' hbl
        clear u0
        have z2 := Z2.out
        have HO : Hid (O = rosV (mxL a b u) (mxL l m u)) := Lib.hid (HGO.out.trans HOK.out)
        clear HOK HGO
        go_wp2
        have hFin := WFin.below (w.heap.size + 3) w2.heap.size O (mxL a b u) (mxL l m u)
        refine wp_region_inv7 (fun iq wv v => match iq with
          | 0 => v = .func (.func 32) #[] #[.pointer (some ⟨w.heap.size + 2, 0, none⟩)]
          | 1 => v = .pointer (some ⟨w.heap.size, 0, none⟩)
          | 2 => v = .slice A a.length ca
          | 3 => v = .pointer (some ⟨(w.heap.size + 1), 0, none⟩)
          | 4 => v = .slice B a.length cb
          | 5 => RNew w2.heap.size (mxL a b u) wv v
          | 6 => v = .func (.func 32) #[] #[.pointer (some ⟨w.heap.size + 2, 0, none⟩)]
          | 7 => v = .pointer (some ⟨w.heap.size, 1, none⟩)
          | 8 => v = .slice L l.length cl
          | 9 => v = .pointer (some ⟨(w.heap.size + 1), 1, none⟩)
          | 10 => v = .slice M m.length cm
          | 11 => RNew w2.heap.size (mxL l m u) wv v
          | 12 => RRaw w2.heap.size (mxL a b u) (mxL l m u) wv v
          | 13 => WGiv w2.heap.size O (mxL a b u) (mxL l m u) wv v
          | 14 => WAgg w2.heap.size O (mxL a b u) (mxL l m u) wv v
          | 15 => v = .bool O
          | 16 => True
          | 17 => v = .bool O
          | _ => False) (fun listed aa ww => StC w2 (w.heap.size + 3) 2 16 (WFin (w.heap.size + 3) w2.heap.size O (mxL a b u) (mxL l m u)) listed ww ∧ AP [38, 44] aa ww) (fun wa wb => Turn wa wb (fun b => b = (w.heap.size + 3))) ?hmono (by kernel_rfl) (by kernel_rfl) ⟨StC.start R2.out rfl, AP.start (by rfl)⟩ ?hop ?hend
        case hmono =>
          intro i wa wb v hR hV
          rcases i with _ | _ | _ | _ | _ | _ | _ | _ | _ | _ | _ | _ | _ | _ | _ | _ | _ | _ | i
          · exact hV
          · exact hV
          · exact hV
          · exact hV
          · exact hV
          · exact hV.turn hR (by omega)
          · exact hV
          · exact hV
          · exact hV
          · exact hV
          · exact hV
          · exact hV.turn hR (by omega)
          · exact hV.turn hR (by omega)
          · exact hV.turn hR (by omega)
          · exact hV.turn hR (by omega)
          · exact hV
          · exact hV
          · exact hV
          · exact hV
        case hop =>
          intro q o hq listed act w3 hI hCA hnot hcl hall
          obtain ⟨hC, hA⟩ := hCA
          have hlen : listed.size = 18 := hI.len
          obtain ⟨kx0, kx1⟩ := (K2.out.turnS hC.1 (by intro e; omega)).two
          obtain ⟨ky0, ky1⟩ := (J2.out.turnS hC.1 (by intro e; omega)).two
          rcases q with _ | _ | _ | _ | _ | _ | _ | _ | _ | _ | _ | _ | _ | _ | _ | _ | _ | _ | q
          · simp at hq; subst hq
            have g8 : act.tmps[8]?.getD undef = .func (.func 32) #[] #[.pointer (some ⟨w.heap.size + 2, 0, none⟩)] := hI.kept 8 (by kernel_rfl)
            have hA2 := fun v => AP.other (k := 33) hA (by decide) v
            clear hI hall hnot hcl
            refine .inl ⟨wanted_none rfl, ?_⟩
            unfold Oper.wp
            go_simp
            all_goals exact ⟨_, rfl, Turn.refl _ _, rfl, StC.step (k := 0) hC (Below.refl _ _) hFin (by decide) (by rw [hlen]; decide), hA2 _⟩
          · simp at hq; subst hq
            have g3 : act.tmps[3]?.getD undef = .pointer (some ⟨w.heap.size, 0, none⟩) := hI.kept 3 (by kernel_rfl)
            have hA2 := fun v => AP.other (k := 34) hA (by decide) v
            clear hI hall hnot hcl
            refine .inl ⟨wanted_none rfl, ?_⟩
            unfold Oper.wp
            go_simp
            all_goals exact ⟨_, rfl, Turn.refl _ _, rfl, StC.step (k := 1) hC (Below.refl _ _) hFin (by decide) (by rw [hlen]; decide), hA2 _⟩
          · simp at hq; subst hq
            have g34 : act.tmps[34]?.getD undef = .pointer (some ⟨w.heap.size, 0, none⟩) := hI.has 1 34 rfl (hall ⟨1, .data⟩ (by simp) rfl)
            have hA2 := fun v => AP.other (k := 35) hA (by decide) v
            clear hI hall hnot hcl
            refine .inl ⟨wanted_none rfl, ?_⟩
            unfold Oper.wp
            go_simp
            all_goals exact ⟨_, rfl, Turn.refl _ _, rfl, StC.step (k := 2) hC (Below.refl _ _) hFin (by decide) (by rw [hlen]; decide), hA2 _⟩
          · simp at hq; subst hq
            have g4 : act.tmps[4]?.getD undef = .pointer (some ⟨(w.heap.size + 1), 0, none⟩) := hI.kept 4 (by kernel_rfl)
            have hA2 := fun v => AP.other (k := 36) hA (by decide) v
            clear hI hall hnot hcl
            refine .inl ⟨wanted_none rfl, ?_⟩
            unfold Oper.wp
            go_simp
            all_goals exact ⟨_, rfl, Turn.refl _ _, rfl, StC.step (k := 3) hC (Below.refl _ _) hFin (by decide) (by rw [hlen]; decide), hA2 _⟩
          · simp at hq; subst hq
            have g36 : act.tmps[36]?.getD undef = .pointer (some ⟨(w.heap.size + 1), 0, none⟩) := hI.has 3 36 rfl (hall ⟨3, .data⟩ (by simp) rfl)
            have hA2 := fun v => AP.other (k := 37) hA (by decide) v
            clear hI hall hnot hcl
            refine .inl ⟨wanted_none rfl, ?_⟩
            unfold Oper.wp
            go_simp
            all_goals exact ⟨_, rfl, Turn.refl _ _, rfl, StC.step (k := 4) hC (Below.refl _ _) hFin (by decide) (by rw [hlen]; decide), hA2 _⟩
          · simp at hq; subst hq
            have g33 : act.tmps[33]?.getD undef = .func (.func 32) #[] #[.pointer (some ⟨w.heap.size + 2, 0, none⟩)] := hI.has 0 33 rfl (hall ⟨0, .data⟩ (by simp) rfl)
            have g35 : act.tmps[35]?.getD undef = .slice A a.length ca := hI.has 2 35 rfl (hall ⟨2, .data⟩ (by simp) rfl)
            have g37 : act.tmps[37]?.getD undef = .slice B a.length cb := hI.has 4 37 rfl (hall ⟨4, .data⟩ (by simp) rfl)
            clear hI hall hnot hcl
            refine .inl ⟨wanted_none rfl, ?_⟩
            unfold Oper.wp
            go_simp
            refine (HCA.out w3 (HP.out.1.turnR B2.out hC.1 (by omega)) (HQ.out.1.turnR B2.out hC.1 (by omega)) (U2.out.turnS hC.1 (by intro e; omega))).mono ?_
            rintro e w4 ⟨cp, bk, xs, rfl, ho, hlo, hcx, b4⟩
            have hz := hC.1.1
            exact ⟨_, rfl, Turn.of_below b4 _, ⟨cp, bk, xs, rfl, ho, by omega, hcx⟩, StC.step (k := 5) hC b4 hFin (by decide) (by rw [hlen]; decide), AP.new hA b4.size hlo ho.1⟩
          · simp at hq; subst hq
            have g8 : act.tmps[8]?.getD undef = .func (.func 32) #[] #[.pointer (some ⟨w.heap.size + 2, 0, none⟩)] := hI.kept 8 (by kernel_rfl)
            have hA2 := fun v => AP.other (k := 39) hA (by decide) v
            clear hI hall hnot hcl
            refine .inl ⟨wanted_none rfl, ?_⟩
            unfold Oper.wp
            go_simp
            all_goals exact ⟨_, rfl, Turn.refl _ _, rfl, StC.step (k := 6) hC (Below.refl _ _) hFin (by decide) (by rw [hlen]; decide), hA2 _⟩
          · simp at hq; subst hq
            have g3 : act.tmps[3]?.getD undef = .pointer (some ⟨w.heap.size, 0, none⟩) := hI.kept 3 (by kernel_rfl)
            have hA2 := fun v => AP.other (k := 40) hA (by decide) v
            clear hI hall hnot hcl
            refine .inl ⟨wanted_none rfl, ?_⟩
            unfold Oper.wp
            go_simp
            all_goals exact ⟨_, rfl, Turn.refl _ _, rfl, StC.step (k := 7) hC (Below.refl _ _) hFin (by decide) (by rw [hlen]; decide), hA2 _⟩
          · simp at hq; subst hq
            have g40 : act.tmps[40]?.getD undef = .pointer (some ⟨w.heap.size, 1, none⟩) := hI.has 7 40 rfl (hall ⟨7, .data⟩ (by simp) rfl)
            have hA2 := fun v => AP.other (k := 41) hA (by decide) v
            clear hI hall hnot hcl
            refine .inl ⟨wanted_none rfl, ?_⟩
            unfold Oper.wp
            go_simp
            all_goals exact ⟨_, rfl, Turn.refl _ _, rfl, StC.step (k := 8) hC (Below.refl _ _) hFin (by decide) (by rw [hlen]; decide), hA2 _⟩
          · simp at hq; subst hq
            have g4 : act.tmps[4]?.getD undef = .pointer (some ⟨(w.heap.size + 1), 0, none⟩) := hI.kept 4 (by kernel_rfl)
            have hA2 := fun v => AP.other (k := 42) hA (by decide) v
            clear hI hall hnot hcl
            refine .inl ⟨wanted_none rfl, ?_⟩
            unfold Oper.wp
            go_simp
            all_goals exact ⟨_, rfl, Turn.refl _ _, rfl, StC.step (k := 9) hC (Below.refl _ _) hFin (by decide) (by rw [hlen]; decide), hA2 _⟩
          · simp at hq; subst hq
            have g42 : act.tmps[42]?.getD undef = .pointer (some ⟨(w.heap.size + 1), 1, none⟩) := hI.has 9 42 rfl (hall ⟨9, .data⟩ (by simp) rfl)
            have hA2 := fun v => AP.other (k := 43) hA (by decide) v
            clear hI hall hnot hcl
            refine .inl ⟨wanted_none rfl, ?_⟩
            unfold Oper.wp
            go_simp
            all_goals exact ⟨_, rfl, Turn.refl _ _, rfl, StC.step (k := 10) hC (Below.refl _ _) hFin (by decide) (by rw [hlen]; decide), hA2 _⟩
          · simp at hq; subst hq
            have g39 : act.tmps[39]?.getD undef = .func (.func 32) #[] #[.pointer (some ⟨w.heap.size + 2, 0, none⟩)] := hI.has 6 39 rfl (hall ⟨6, .data⟩ (by simp) rfl)
            have g41 : act.tmps[41]?.getD undef = .slice L l.length cl := hI.has 8 41 rfl (hall ⟨8, .data⟩ (by simp) rfl)
            have g43 : act.tmps[43]?.getD undef = .slice M m.length cm := hI.has 10 43 rfl (hall ⟨10, .data⟩ (by simp) rfl)
            clear hI hall hnot hcl
            refine .inl ⟨wanted_none rfl, ?_⟩
            unfold Oper.wp
            go_simp
            refine (HCL.out w3 (HP.out.2.turnR B2.out hC.1 (by omega)) (HQ.out.2.turnR B2.out hC.1 (by omega)) (U2.out.turnS hC.1 (by intro e; omega))).mono ?_
            rintro e w4 ⟨cp, bk, xs, rfl, ho, hlo, hcx, b4⟩
            have hz := hC.1.1
            exact ⟨_, rfl, Turn.of_below b4 _, ⟨cp, bk, xs, rfl, ho, by omega, hcx⟩, StC.step (k := 11) hC b4 hFin (by decide) (by rw [hlen]; decide), AP.new hA b4.size hlo ho.1⟩
          · simp at hq; subst hq
            have G38 := hI.has 5 38 rfl (hall ⟨5, .data⟩ (by simp) rfl)
            have G44 := hI.has 11 44 rfl (hall ⟨11, .data⟩ (by simp) rfl)
            have hA2 := fun v => AP.other (k := 45) hA (by decide) v
            clear hI hall hnot hcl
            refine .inl ⟨wanted_none rfl, ?_⟩
            unfold Oper.wp
            go_simp
            obtain ⟨cp5, bk5, xs5, e5, o5, l5, c5⟩ := G38
            obtain ⟨cp11, bk11, xs11, e11, o11, l11, c11⟩ := G44
            have ene := hA.2 38 (by decide) 44 (by decide) (by decide) _ _ _ _ _ _ _ _ (by rw [Array.getD_eq_getD_getElem?]; exact e5) (by rw [Array.getD_eq_getD_getElem?]; exact e11)
            rw [e5, e11]
            go_simp
            exact ⟨_, rfl, Turn.refl _ _, ⟨_, _, _, _, _, _, _, _, rfl, ⟨o5.o l5, o11.o l11, ene⟩, c5, c11⟩, StC.step (k := 12) hC (Below.refl _ _) hFin (by decide) (by rw [hlen]; decide), hA2 _⟩
          · simp at hq; subst hq
            have G45 := hI.has 12 45 rfl (hall ⟨12, .data⟩ (by simp) rfl)
            have hA2 := fun v => AP.other (k := 46) hA (by decide) v
            clear hI hall hnot hcl
            refine .inl ⟨wanted_none rfl, ?_⟩
            unfold Oper.wp
            go_simp
            obtain ⟨Ra, Rb, da, db, ka, kb, xs, ys, eg, ho, hcx, hcy⟩ := G45
            rw [eg]
            go_simp
            refine (i_GiveRQ Ra Rb da db ka kb w2.heap.size xs ys (mxL a b u) (mxL l m u) O w3 ho hcx hcy HO.out (by have h1 := hcx.1; have h2 := hcy.1; rw [mxL_length] at h1 h2; have := HSZ.out; have := HLL.out; unfold FewS; omega)).mono ?_
            rintro e w4 ⟨v4, rfl, ho4, b4⟩
            exact ⟨_, rfl, Turn.of_below b4 _, ho4, StC.step (k := 13) hC b4 hFin (by decide) (by rw [hlen]; decide), (hA2 _).grow b4.size⟩
          · simp at hq; subst hq
            have G46 := hI.has 13 46 rfl (hall ⟨13, .data⟩ (by simp) rfl)
            have hA2 := fun v => AP.other (k := 47) hA (by decide) v
            clear hI hall hnot hcl
            refine .inl ⟨wanted_none rfl, ?_⟩
            unfold Oper.wp
            go_simp
            obtain ⟨Ra, Rb, da, db, ka, kb, eg, hg⟩ := G46
            rw [eg]
            go_simp
            exact ⟨_, rfl, Turn.refl _ _, ⟨Ra, Rb, da, db, ka, kb, rfl, hg⟩, StC.step (k := 14) hC (Below.refl _ _) hFin (by decide) (by rw [hlen]; decide), hA2 _⟩
          · simp at hq; subst hq
            have G46 := hI.has 13 46 rfl (hall ⟨13, .data⟩ (by simp) rfl)
            have hA2 := fun v => AP.other (k := 48) hA (by decide) v
            clear hI hall hnot hcl
            refine .inl ⟨wanted_none rfl, ?_⟩
            unfold Oper.wp
            go_simp
            obtain ⟨Ra, Rb, da, db, ka, kb, eg, hg⟩ := G46
            rw [eg]
            go_simp
            exact ⟨_, rfl, Turn.refl _ _, rfl, StC.step (k := 15) hC (Below.refl _ _) hFin (by decide) (by rw [hlen]; decide), hA2 _⟩
          · simp at hq; subst hq
            have g6 : act.tmps[6]?.getD undef = .pointer (some ⟨(w.heap.size + 3), 0, none⟩) := hI.kept 6 (by kernel_rfl)
            have G47 := hI.has 14 47 rfl (hall ⟨14, .data⟩ (by simp) rfl)
            have hA2 := fun v => AP.skip hA v
            clear hI hall hnot hcl
            refine .inl ⟨wanted_none rfl, ?_⟩
            unfold Oper.wp
            go_simp
            obtain ⟨Ra, Rb, da, db, ka, kb, eg, hg⟩ := G47
            rw [eg]
            obtain ⟨vs, hvs, hvl⟩ := hC.2.1
            match vs, hvs, hvl with
            | [a0, a1], hvs, _ =>
            have p0 := (hvs.2 0 _ rfl).1
            have q0 := (hvs.2 0 _ rfl).2
            have p1 := (hvs.2 1 _ rfl).1
            have q1 := (hvs.2 1 _ rfl).2
            go_simp
            have hf := ((hvs.set (i := 0) (by simp) (.slice Ra (gLn O (mxL a b u)).length da)).set (i := 1) (by simp) (.slice Rb (gLn O (mxL l m u)).length db))
            have ht := ((Turn.set w3 (B := (w.heap.size + 3)) ⟨(w.heap.size + 3), 0, none⟩ rfl (.slice Ra (gLn O (mxL a b u)).length da)).trans (Turn.set _ (B := (w.heap.size + 3)) ⟨(w.heap.size + 3), 1, none⟩ rfl (.slice Rb (gLn O (mxL l m u)).length db)))
            have hn := ((hg.setR (p := ⟨(w.heap.size + 3), 0, none⟩) (by show (w.heap.size + 3) < _; omega) (.slice Ra (gLn O (mxL a b u)).length da)).setR (p := ⟨(w.heap.size + 3), 1, none⟩) (by show (w.heap.size + 3) < _; omega) (.slice Rb (gLn O (mxL l m u)).length db))
            have hst := StC.store (st := 16) hC ht hf rfl ⟨Ra, Rb, da, db, ka, kb, hf, hn⟩
            have hap := (hA2 undef).grow ht.1
            first | exact ⟨ht, trivial, hst, hap⟩ | exact ⟨ht, hst, hap⟩
          · simp at hq; subst hq
            have g48 : act.tmps[48]?.getD undef = .bool O := hI.has 15 48 rfl (hall ⟨15, .data⟩ (by simp) rfl)
            have hA2 := fun v => AP.other (k := 7) hA (by decide) v
            clear hI hall hnot hcl
            refine .inl ⟨wanted_none rfl, ?_⟩
            unfold Oper.wp
            go_simp
            all_goals exact ⟨_, rfl, Turn.refl _ _, rfl, StC.step (k := 17) hC (Below.refl _ _) hFin (by decide) (by rw [hlen]; decide), hA2 _⟩
          · simp at hq
        case hend =>
          intro listed act w3 hI hCA hall
          obtain ⟨hC, hA⟩ := hCA
          have hlen : listed.size = 18 := hI.len
          obtain ⟨kx0, kx1⟩ := (K2.out.turnS hC.1 (by intro e; omega)).two
          obtain ⟨ky0, ky1⟩ := (J2.out.turnS hC.1 (by intro e; omega)).two
          obtain ⟨Ra, Rb, da, db, ka, kb, hf, hown⟩ := hC.2.2 (hall 16 (by decide))
          have ht := hC.1
          have g6 : act.tmps[6]?.getD undef = .pointer (some ⟨(w.heap.size + 3), 0, none⟩) := hI.kept 6 (by kernel_rfl)
          have g7 : act.tmps[7]?.getD undef = .bool O := hI.has 17 7 rfl (hall 17 (by decide))
          have hd := hI.defers
          clear hI hall hFin hC hA
          have c0 := (hf.2 0 _ rfl).1
          have c1 := (hf.2 1 _ rfl).1
          go_wp2
          refine bodyPost_ret (v := .tuple #[.agg #[.slice Ra (gLn O (mxL a b u)).length da, .slice Rb (gLn O (mxL l m u)).length db], .bool O]) (by simp [results, Try.results10, g6, g7, c0, c1, go_sem]) (by first | rfl | exact hd) ?_
          have hbw := ht.2.2.2 w B2.out (fun b hb => by have hb : b = (w.heap.size + 3) := hb; omega)
          first | exact ⟨Ra, Rb, da, db, ka, kb, rfl, hown.baseR B2.out.size, hbw⟩ | exact ⟨Ra, Rb, ⟨da, db, rfl⟩, ⟨ka, kb, hown.baseR B2.out.size⟩, hbw⟩
theorem i_MixRoses (A L B M : Option Addr) (ca cl cb cm : Nat) (a l b m : List Nat) (u : Nat) (w : World) (h : Rs w A L a l) (hn : FewS a l) (h' : Rs w B M b m) (hn' : FewS b m) :
    Calls Try.prog 10 #[.agg #[.slice A a.length ca, .slice L l.length cl], .agg #[.slice B b.length cb, .slice M m.length cm], .float .f32 u] w fun e w' => ∃ (R1 R2 : Option Addr) (c1 c2 g1 g2 : Nat), e = .returned (.tuple #[.agg #[.slice R1 (gLn (mgO a l b m u) (mxL a b u)).length c1, .slice R2 (gLn (mgO a l b m u) (mxL l m u)).length c2], .bool (mgO a l b m u)]) ∧ OwnR2 w' w.heap.size R1 R2 g1 g2 (gLn (mgO a l b m u) (mxL a b u)) (gLn (mgO a l b m u) (mxL l m u)) ∧ Below w.heap.size w w' := by
  by_cases hab : b.length = a.length
  · have := i_MixRoses_eq A L B M ca cl cb cm a l b m u w h hn h' hn' (Lib.hid hab)
    rw [← hab] at this ⊢
    exact this
  · exact i_MixRoses_ne A L B M ca cl cb cm a l b m u w h hn h' hn' (Lib.hid (fun e => hab e.symm))
end Go.Proofs.Ytahbcpjipomcgaa
