/- A rotor with a profile of its own: the program. No statement is proved here. -/
import Derived.Test.YtiiiigldpbomkaaStM
import Derived.Test.YtiiiigldpbomkaaPim
import Derived.Test.YtiiiigldpbomkaaValR
namespace Go.Proofs.Ytiiiigldpbomkaa
open Go Go.RowKit
/-- as StC; what RB holds until the store is known -/
def StV (w1 : World) (RB st : Nat) (vs : List Value) (Fin : World → Prop) (listed : Array Bool) (ww : World) : Prop :=
  Turn w1 ww (fun b => b = RB) ∧ (listed.getD st false = false → BlkL ww RB vs) ∧ (listed.getD st false = true → Fin ww)
theorem StV.step {w1 ww ww' : World} {RB st k : Nat} {vs : List Value} {Fin : World → Prop} {listed : Array Bool} (h : StV w1 RB st vs Fin listed ww) (hb : Below ww.heap.size ww ww') (hf : ∀ a b, Below a.heap.size a b → Fin a → Fin b) (hk : k ≠ st) (hsz : k < listed.size) :
    StV w1 RB st vs Fin (listed.setIfInBounds k true) ww' := by
  obtain ⟨h1, h2, h4⟩ := h
  refine ⟨h1.trans (Turn.of_below hb _), fun hl => (h2 ?_).below hb, fun hl => hf _ _ hb (h4 ?_)⟩
  · rw [getD_set hsz, if_neg hk] at hl; exact hl
  · rw [getD_set hsz, if_neg hk] at hl; exact hl
theorem StV.store {w1 ww ww' : World} {RB st : Nat} {vs : List Value} {Fin : World → Prop} {listed : Array Bool} (h : StV w1 RB st vs Fin listed ww) (ht : Turn ww ww' (fun b => b = RB)) (hsz : st < listed.size) (hf : Fin ww') :
    StV w1 RB st vs Fin (listed.setIfInBounds st true) ww' := by
  refine ⟨h.1.trans ht, fun hl => ?_, fun _ => hf⟩
  rw [getD_set hsz, if_pos rfl] at hl
  cases hl
theorem StV.start {w1 : World} {RB st m : Nat} {Fin : World → Prop} {vs : List Value} (hb : BlkL w1 RB vs) : StV w1 RB st vs Fin (Array.replicate m false) { w1 with drawn := w1.drawn + 1 } := by
  refine ⟨Turn.of_below ((Below.refl _ _).drew) _, fun _ => hb.below ((Below.refl _ _).drew), fun hl => ?_⟩
  simp [Array.getD] at hl
/-- a list that was copied -/
def LNewT (B0 : Nat) (xs : List Nat) (W : World) (v : Value) : Prop := ∃ cp bk, v = .slice (some ⟨bk, 0, none⟩) xs.length cp ∧ Own W bk xs ∧ B0 ≤ bk
theorem LNewT.turn {B0 RB : Nat} {xs : List Nat} {W W' : World} {v : Value} (h : LNewT B0 xs W v) (ht : Turn W W' (fun b => b = RB)) (hb : RB < B0) : LNewT B0 xs W' v := by
  obtain ⟨cp, bk, rfl, h1, h2⟩ := h
  exact ⟨cp, bk, rfl, h1.turn ht (by show ¬ bk = RB; omega), h2⟩
/-- three lists of the call's own, apart -/
def P3 (B0 b1 b2 b3 : Nat) (a l d : List Nat) (W : World) : Prop := Own W b1 a ∧ Own W b2 l ∧ Own W b3 d ∧ B0 ≤ b1 ∧ B0 ≤ b2 ∧ B0 ≤ b3 ∧ b1 ≠ b2 ∧ b1 ≠ b3 ∧ b2 ≠ b3
theorem P3.turn {B0 RB b1 b2 b3 : Nat} {a l d : List Nat} {W W' : World} (h : P3 B0 b1 b2 b3 a l d W) (ht : Turn W W' (fun b => b = RB)) (hb : RB < B0) : P3 B0 b1 b2 b3 a l d W' := by
  obtain ⟨h1, h2, h3, g1, g2, g3, h4⟩ := h
  exact ⟨h1.turn ht (by show ¬ b1 = RB; omega), h2.turn ht (by show ¬ b2 = RB; omega), h3.turn ht (by show ¬ b3 = RB; omega), g1, g2, g3, h4⟩
theorem P3.below {B0 b1 b2 b3 : Nat} {a l d : List Nat} {W W' : World} (h : P3 B0 b1 b2 b3 a l d W) (hb : Below W.heap.size W W') : P3 B0 b1 b2 b3 a l d W' := by
  obtain ⟨h1, h2, h3, h4⟩ := h
  exact ⟨h1.below hb, h2.below hb, h3.below hb, h4⟩
theorem P3.setCell {B0 b1 b2 b3 : Nat} {a l d : List Nat} {W : World} (h : P3 B0 b1 b2 b3 a l d W) {p : Addr} (hp : p.block < B0) (v : Value) : P3 B0 b1 b2 b3 a l d (W.setCell p v) := by
  obtain ⟨h1, h2, h3, g1, g2, g3, h4⟩ := h
  exact ⟨h1.setCell (by omega) v, h2.setCell (by omega) v, h3.setCell (by omega) v, g1, g2, g3, h4⟩
def PrT (B0 : Nat) (a l d : List Nat) (W : World) (v : Value) : Prop := ∃ b1 b2 b3 c1 c2 c3, v = .agg #[.slice (some ⟨b1, 0, none⟩) a.length c1, .slice (some ⟨b2, 0, none⟩) l.length c2, .slice (some ⟨b3, 0, none⟩) d.length c3] ∧ P3 B0 b1 b2 b3 a l d W
theorem PrT.turn {B0 RB : Nat} {a l d : List Nat} {W W' : World} {v : Value} (h : PrT B0 a l d W v) (ht : Turn W W' (fun b => b = RB)) (hb : RB < B0) : PrT B0 a l d W' v := by
  obtain ⟨b1, b2, b3, c1, c2, c3, rfl, h⟩ := h
  exact ⟨b1, b2, b3, c1, c2, c3, rfl, h.turn ht hb⟩
def FinT (RB B0 : Nat) (a l d : List Nat) (rest : List Value) (W : World) : Prop := ∃ b1 b2 b3 c1 c2 c3, BlkL W RB (.slice (some ⟨b1, 0, none⟩) a.length c1 :: .slice (some ⟨b2, 0, none⟩) l.length c2 :: .slice (some ⟨b3, 0, none⟩) d.length c3 :: rest) ∧ P3 B0 b1 b2 b3 a l d W
theorem FinT.below (RB B0 : Nat) (a l d : List Nat) (rest : List Value) : ∀ wa wb : World, Below wa.heap.size wa wb → FinT RB B0 a l d rest wa → FinT RB B0 a l d rest wb := by
  rintro wa wb hb ⟨b1, b2, b3, c1, c2, c3, h1, h2⟩
  exact ⟨b1, b2, b3, c1, c2, c3, h1.below hb, h2.below hb⟩
set_option maxHeartbeats 8000000 in
theorem i_withOwn_no (A L D S : Option Addr) (ca cl cd n cs : Nat) (c : Int) (hub tip : Nat) (a l d s : List Nat) (w : World) (h : Rt w A L D S a l d s) (hn : FewR a l d s n) (hv : validR a l d s n c hub tip = false) :
    Calls Try.prog 75 #[.agg #[.slice A a.length ca, .slice L l.length cl, .slice D d.length cd, .slice S n cs, .int .i64 c, .float .f32 hub, .float .f32 tip]] w fun e w' => e = .returned (.tuple #[.agg #[.slice none 0 0, .slice none 0 0, .slice none 0 0, .slice none 0 0, .int .i64 0, .float .f32 0, .float .f32 0], .bool false]) ∧ Below w.heap.size w w' := by
  have HV := Lib.hid hv; clear hv
  have HP : Hid (Pf w A L D a l d) := Lib.hid h.1
  obtain ⟨w0, hw0⟩ : ∃ q, q = (w.alloc (.cells #[.slice A a.length ca, .slice L l.length cl, .slice D d.length cd, .slice S n cs, .int .i64 c, .float .f32 hub, .float .f32 tip] 30)).alloc (.cells #[.slice none 0 0, .slice none 0 0, .slice none 0 0, .slice none 0 0, .int .i64 0, .float .f32 0, .float .f32 0] 30) := ⟨_, rfl⟩
  have B0 : Hid (Below w.heap.size w w0) := Lib.hid (by rw [hw0]; exact ((Below.refl _ _).alloc (Nat.le_refl _) _).alloc (by simp) _)
  have K0 : Hid (BlkL w0 w.heap.size [.slice A a.length ca, .slice L l.length cl, .slice D d.length cd, .slice S n cs, .int .i64 c, .float .f32 hub, .float .f32 tip]) := Lib.hid (by rw [hw0]; exact (blkL_at w #[.slice A a.length ca, .slice L l.length cl, .slice D d.length cd, .slice S n cs, .int .i64 c, .float .f32 hub, .float .f32 tip] _ rfl).alloc _)
  have KR : Hid (BlkL w0 (w.heap.size + 1) [.slice none 0 0, .slice none 0 0, .slice none 0 0, .slice none 0 0, .int .i64 0, .float .f32 0, .float .f32 0]) := Lib.hid (by rw [hw0]; exact blkL_at (w.alloc _) #[.slice none 0 0, .slice none 0 0, .slice none 0 0, .slice none 0 0, .int .i64 0, .float .f32 0, .float .f32 0] _ (by simp))
  have Z0 : Hid (w0.heap.size = w.heap.size + 2) := Lib.hid (by rw [hw0]; simp)
  have HH := Lib.hid (h.below B0.out)
  have HNW := Lib.hid hn
  have hbd := hn.2
  clear h hn
  obtain ⟨m0, m1, m2, m3, m4, m5, m6⟩ := K0.out.sevenT
  go_enter Try.func75, Try.ntmps75
  go_wp2_with fail
  rw [← hw0]
  clear hw0
  go_wp2_with fail
  refine (i_ValidRotor A L D S ca cl cd n cs c hub tip a l d s _ HH.out HNW.out).mono ?_
  rintro e w1 ⟨rfl, b⟩
  clear m0 m1 m2 m3 m4 m5 m6
  have L0 : Hid (BlkL w1 w.heap.size [.slice A a.length ca, .slice L l.length cl, .slice D d.length cd, .slice S n cs, .int .i64 c, .float .f32 hub, .float .f32 tip]) := Lib.hid (K0.out.below b)
  have LR : Hid (BlkL w1 (w.heap.size + 1) [.slice none 0 0, .slice none 0 0, .slice none 0 0, .slice none 0 0, .int .i64 0, .float .f32 0, .float .f32 0]) := Lib.hid (KR.out.below b)
  have B1 : Hid (Below w.heap.size w w1) := Lib.hid (below_of B0.out B0.out.size b)
  have Z1 : Hid (w.heap.size + 2 ≤ w1.heap.size) := Lib.hid (by have := b.size; have := Z0.out; omega)
  clear b K0 KR B0 Z0 HH
  rw [HV.out]
  have p0 := (LR.out.2 0 _ rfl).1
  have q0 := (LR.out.2 0 _ rfl).2
  have p1 := (LR.out.2 1 _ rfl).1
  have q1 := (LR.out.2 1 _ rfl).2
  have p2 := (LR.out.2 2 _ rfl).1
  have q2 := (LR.out.2 2 _ rfl).2
  have p3 := (LR.out.2 3 _ rfl).1
  have q3 := (LR.out.2 3 _ rfl).2
  have p4 := (LR.out.2 4 _ rfl).1
  have q4 := (LR.out.2 4 _ rfl).2
  have p5 := (LR.out.2 5 _ rfl).1
  have q5 := (LR.out.2 5 _ rfl).2
  have p6 := (LR.out.2 6 _ rfl).1
  have q6 := (LR.out.2 6 _ rfl).2
  go_wp2
  refine bodyPost_ret (v := .tuple #[.agg #[.slice none 0 0, .slice none 0 0, .slice none 0 0, .slice none 0 0, .int .i64 0, .float .f32 0, .float .f32 0], .bool false]) ?_ rfl ⟨rfl, ?_⟩
  · simp [results, Try.results75, go_sem, p0, p1, p2, p3, p4, p5, p6]
  · exact (((((((B1.out).setCell (p := ⟨w.heap.size + 1, 0, none⟩) (by show w.heap.size ≤ w.heap.size + 1; omega) _).setCell (p := ⟨w.heap.size + 1, 1, none⟩) (by show w.heap.size ≤ w.heap.size + 1; omega) _).setCell (p := ⟨w.heap.size + 1, 2, none⟩) (by show w.heap.size ≤ w.heap.size + 1; omega) _).setCell (p := ⟨w.heap.size + 1, 3, none⟩) (by show w.heap.size ≤ w.heap.size + 1; omega) _).setCell (p := ⟨w.heap.size + 1, 4, none⟩) (by show w.heap.size ≤ w.heap.size + 1; omega) _).setCell (p := ⟨w.heap.size + 1, 5, none⟩) (by show w.heap.size ≤ w.heap.size + 1; omega) _).setCell (p := ⟨w.heap.size + 1, 6, none⟩) (by show w.heap.size ≤ w.heap.size + 1; omega) _
set_option maxHeartbeats 16000000 in
set_option maxRecDepth 100000 in
theorem i_withOwn_yes (A L D S : Option Addr) (ca cl cd n cs : Nat) (c : Int) (hub tip : Nat) (a l d s : List Nat) (w : World) (h : Rt w A L D S a l d s) (hn : FewR a l d s n) (hv : validR a l d s n c hub tip = true) :
    Calls Try.prog 75 #[.agg #[.slice A a.length ca, .slice L l.length cl, .slice D d.length cd, .slice S n cs, .int .i64 c, .float .f32 hub, .float .f32 tip]] w fun e w' => ∃ b1 b2 b3 c1 c2 c3, e = .returned (.tuple #[.agg #[.slice (some ⟨b1, 0, none⟩) a.length c1, .slice (some ⟨b2, 0, none⟩) l.length c2, .slice (some ⟨b3, 0, none⟩) d.length c3, .slice S n cs, .int .i64 c, .float .f32 hub, .float .f32 tip], .bool true]) ∧ P3 w.heap.size b1 b2 b3 a l d w' ∧ Below w.heap.size w w' := by
  obtain ⟨vp, -⟩ := validR_parts hv
  obtain ⟨s1, s2, s3, s4⟩ := sized_of vp
  have ha1 : 1 ≤ a.length := by omega
  have hl1 : 1 ≤ l.length := by omega
  have hd1 : 1 ≤ d.length := by omega
  clear vp s1 s2 s3 s4
  have HV := Lib.hid hv; clear hv
  have HP : Hid (Pf w A L D a l d) := Lib.hid h.1
  obtain ⟨w0, hw0⟩ : ∃ q, q = (w.alloc (.cells #[.slice A a.length ca, .slice L l.length cl, .slice D d.length cd, .slice S n cs, .int .i64 c, .float .f32 hub, .float .f32 tip] 30)).alloc (.cells #[.slice none 0 0, .slice none 0 0, .slice none 0 0, .slice none 0 0, .int .i64 0, .float .f32 0, .float .f32 0] 30) := ⟨_, rfl⟩
  have B0 : Hid (Below w.heap.size w w0) := Lib.hid (by rw [hw0]; exact ((Below.refl _ _).alloc (Nat.le_refl _) _).alloc (by simp) _)
  have K0 : Hid (BlkL w0 w.heap.size [.slice A a.length ca, .slice L l.length cl, .slice D d.length cd, .slice S n cs, .int .i64 c, .float .f32 hub, .float .f32 tip]) := Lib.hid (by rw [hw0]; exact (blkL_at w #[.slice A a.length ca, .slice L l.length cl, .slice D d.length cd, .slice S n cs, .int .i64 c, .float .f32 hub, .float .f32 tip] _ rfl).alloc _)
  have KR : Hid (BlkL w0 (w.heap.size + 1) [.slice none 0 0, .slice none 0 0, .slice none 0 0, .slice none 0 0, .int .i64 0, .float .f32 0, .float .f32 0]) := Lib.hid (by rw [hw0]; exact blkL_at (w.alloc _) #[.slice none 0 0, .slice none 0 0, .slice none 0 0, .slice none 0 0, .int .i64 0, .float .f32 0, .float .f32 0] _ (by simp))
  have Z0 : Hid (w0.heap.size = w.heap.size + 2) := Lib.hid (by rw [hw0]; simp)
  have HH := Lib.hid (h.below B0.out)
  have HNW := Lib.hid hn
  have hbd := hn.2
  clear h hn
  obtain ⟨m0, m1, m2, m3, m4, m5, m6⟩ := K0.out.sevenT
  go_enter Try.func75, Try.ntmps75
  go_wp2_with fail
  rw [← hw0]
  clear hw0
  go_wp2_with fail
  refine (i_ValidRotor A L D S ca cl cd n cs c hub tip a l d s _ HH.out HNW.out).mono ?_
  rintro e w1 ⟨rfl, b⟩
  clear m0 m1 m2 m3 m4 m5 m6
  have L0 : Hid (BlkL w1 w.heap.size [.slice A a.length ca, .slice L l.length cl, .slice D d.length cd, .slice S n cs, .int .i64 c, .float .f32 hub, .float .f32 tip]) := Lib.hid (K0.out.below b)
  have LR : Hid (BlkL w1 (w.heap.size + 1) [.slice none 0 0, .slice none 0 0, .slice none 0 0, .slice none 0 0, .int .i64 0, .float .f32 0, .float .f32 0]) := Lib.hid (KR.out.below b)
  have B1 : Hid (Below w.heap.size w w1) := Lib.hid (below_of B0.out B0.out.size b)
  have Z1 : Hid (w.heap.size + 2 ≤ w1.heap.size) := Lib.hid (by have := b.size; have := Z0.out; omega)
  clear b K0 KR B0 Z0 HH
  rw [HV.out]
  obtain ⟨BP, hBP⟩ : ∃ q, q = w1.heap.size := ⟨_, rfl⟩
  obtain ⟨w2, hw2⟩ : ∃ q, q = w1.alloc (.cells #[.slice A a.length ca, .slice L l.length cl, .slice D d.length cd] 27) := ⟨_, rfl⟩
  have LP : Hid (BlkL w2 BP [.slice A a.length ca, .slice L l.length cl, .slice D d.length cd]) := Lib.hid (by rw [hw2, hBP]; exact blkL_at w1 #[.slice A a.length ca, .slice L l.length cl, .slice D d.length cd] _ rfl)
  have L2 : Hid (BlkL w2 w.heap.size [.slice A a.length ca, .slice L l.length cl, .slice D d.length cd, .slice S n cs, .int .i64 c, .float .f32 hub, .float .f32 tip]) := Lib.hid (by rw [hw2]; exact L0.out.alloc _)
  have LR2 : Hid (BlkL w2 (w.heap.size + 1) [.slice none 0 0, .slice none 0 0, .slice none 0 0, .slice none 0 0, .int .i64 0, .float .f32 0, .float .f32 0]) := Lib.hid (by rw [hw2]; exact LR.out.alloc _)
  have B2 : Hid (Below w.heap.size w w2) := Lib.hid (by rw [hw2]; exact B1.out.alloc B1.out.size _)
  have HZ : Hid (w.heap.size + 2 ≤ BP ∧ BP < w2.heap.size) := Lib.hid (by rw [hw2, hBP]; have := Z1.out; simp; omega)
  clear LR
  have LR := LR2
  clear LR2
  have m0 := (L0.out.2 0 _ rfl).1
  have m1 := (L0.out.2 1 _ rfl).1
  have m2 := (L0.out.2 2 _ rfl).1
  go_wp2_with fail
  go_upto_region 4 with fail
  rw [← hw2, ← hBP]
  clear hw2 hBP m0 m1 m2 L0 B1 Z1
  have hz := HZ.out
  have hFin := FinT.below w.heap.size w2.heap.size a l d [.slice S n cs, .int .i64 c, .float .f32 hub, .float .f32 tip]
  refine wp_region_inv7 (fun iq wv v => match iq with
    | 0 => v = .pointer (some ⟨BP, 0, none⟩)
    | 1 => v = .slice A a.length ca
    | 2 => LNewT w2.heap.size a wv v
    | 3 => v = .pointer (some ⟨BP, 1, none⟩)
    | 4 => v = .slice L l.length cl
    | 5 => LNewT w2.heap.size l wv v
    | 6 => v = .pointer (some ⟨BP, 2, none⟩)
    | 7 => v = .slice D d.length cd
    | 8 => LNewT w2.heap.size d wv v
    | 9 => PrT w2.heap.size a l d wv v
    | 10 => v = .pointer (some ⟨w.heap.size, 0, none⟩)
    | 11 => True
    | _ => False) (fun listed aa ww => StV w2 w.heap.size 11 [.slice A a.length ca, .slice L l.length cl, .slice D d.length cd, .slice S n cs, .int .i64 c, .float .f32 hub, .float .f32 tip] (FinT w.heap.size w2.heap.size a l d [.slice S n cs, .int .i64 c, .float .f32 hub, .float .f32 tip]) listed ww ∧ AP [13, 16, 19] aa ww) (fun wa wb => Turn wa wb (fun b => b = w.heap.size)) ?hmono (by kernel_rfl) (by kernel_rfl) ⟨StV.start L2.out, AP.start (by rfl)⟩ ?hop ?hend
  case hmono =>
    intro i wa wb v hR hV
    rcases i with _ | _ | _ | _ | _ | _ | _ | _ | _ | _ | _ | _ | i
    · exact hV
    · exact hV
    · exact hV.turn hR (by omega)
    · exact hV
    · exact hV
    · exact hV.turn hR (by omega)
    · exact hV
    · exact hV
    · exact hV.turn hR (by omega)
    · exact hV.turn hR (by omega)
    · exact hV
    · exact hV
    · exact hV
  case hop =>
    intro q o hq listed act w3 hI hCA hnot hcl hall
    obtain ⟨hC, hA⟩ := hCA
    have hlen : listed.size = 12 := hI.len
    obtain ⟨kx0, kx1, kx2⟩ := (LP.out.turnS hC.1 (by intro e; omega)).three
    rcases q with _ | _ | _ | _ | _ | _ | _ | _ | _ | _ | _ | _ | q
    · simp at hq; subst hq
      have g4 : act.tmps[4]?.getD undef = .pointer (some ⟨BP, 0, none⟩) := hI.kept 4 (by kernel_rfl)
      have hA2 := fun v => AP.other (k := 11) hA (by decide) v
      clear hI hall hcl
      refine .inl ⟨wanted_none rfl, ?_⟩
      unfold Oper.wp
      go_simp
      all_goals exact ⟨_, rfl, Turn.refl _ _, rfl, StV.step (k := 0) hC (Below.refl _ _) hFin (by decide) (by rw [hlen]; decide), hA2 _⟩
    · simp at hq; subst hq
      have g11 : act.tmps[11]?.getD undef = .pointer (some ⟨BP, 0, none⟩) := hI.has 0 11 rfl (hall ⟨0, .data⟩ (by simp) rfl)
      have hA2 := fun v => AP.other (k := 12) hA (by decide) v
      clear hI hall hcl
      refine .inl ⟨wanted_none rfl, ?_⟩
      unfold Oper.wp
      go_simp
      all_goals exact ⟨_, rfl, Turn.refl _ _, rfl, StV.step (k := 1) hC (Below.refl _ _) hFin (by decide) (by rw [hlen]; decide), hA2 _⟩
    · simp at hq; subst hq
      have g12 : act.tmps[12]?.getD undef = .slice A a.length ca := hI.has 1 12 rfl (hall ⟨1, .data⟩ (by simp) rfl)
      clear hI hall hcl
      refine .inl ⟨wanted_none rfl, ?_⟩
      unfold Oper.wp
      go_simp
      refine (lib_CloneP A ca a w3 (HP.out.1.turnW B2.out hC.1 (Nat.le_refl _)) (by omega) (by omega)).mono ?_
      rintro e w4 ⟨cp, g, rfl, ho, hl, b4⟩
      have hz := hC.1.1
      exact ⟨_, rfl, Turn.of_below b4 _, ⟨cp, g, rfl, ho, by omega⟩, StV.step (k := 2) hC b4 hFin (by decide) (by rw [hlen]; decide), AP.new hA b4.size hl ho.1⟩
    · simp at hq; subst hq
      have g4 : act.tmps[4]?.getD undef = .pointer (some ⟨BP, 0, none⟩) := hI.kept 4 (by kernel_rfl)
      have hA2 := fun v => AP.other (k := 14) hA (by decide) v
      clear hI hall hcl
      refine .inl ⟨wanted_none rfl, ?_⟩
      unfold Oper.wp
      go_simp
      all_goals exact ⟨_, rfl, Turn.refl _ _, rfl, StV.step (k := 3) hC (Below.refl _ _) hFin (by decide) (by rw [hlen]; decide), hA2 _⟩
    · simp at hq; subst hq
      have g14 : act.tmps[14]?.getD undef = .pointer (some ⟨BP, 1, none⟩) := hI.has 3 14 rfl (hall ⟨3, .data⟩ (by simp) rfl)
      have hA2 := fun v => AP.other (k := 15) hA (by decide) v
      clear hI hall hcl
      refine .inl ⟨wanted_none rfl, ?_⟩
      unfold Oper.wp
      go_simp
      all_goals exact ⟨_, rfl, Turn.refl _ _, rfl, StV.step (k := 4) hC (Below.refl _ _) hFin (by decide) (by rw [hlen]; decide), hA2 _⟩
    · simp at hq; subst hq
      have g15 : act.tmps[15]?.getD undef = .slice L l.length cl := hI.has 4 15 rfl (hall ⟨4, .data⟩ (by simp) rfl)
      clear hI hall hcl
      refine .inl ⟨wanted_none rfl, ?_⟩
      unfold Oper.wp
      go_simp
      refine (lib_CloneP L cl l w3 (HP.out.2.1.turnW B2.out hC.1 (Nat.le_refl _)) (by omega) (by omega)).mono ?_
      rintro e w4 ⟨cp, g, rfl, ho, hl, b4⟩
      have hz := hC.1.1
      exact ⟨_, rfl, Turn.of_below b4 _, ⟨cp, g, rfl, ho, by omega⟩, StV.step (k := 5) hC b4 hFin (by decide) (by rw [hlen]; decide), AP.new hA b4.size hl ho.1⟩
    · simp at hq; subst hq
      have g4 : act.tmps[4]?.getD undef = .pointer (some ⟨BP, 0, none⟩) := hI.kept 4 (by kernel_rfl)
      have hA2 := fun v => AP.other (k := 17) hA (by decide) v
      clear hI hall hcl
      refine .inl ⟨wanted_none rfl, ?_⟩
      unfold Oper.wp
      go_simp
      all_goals exact ⟨_, rfl, Turn.refl _ _, rfl, StV.step (k := 6) hC (Below.refl _ _) hFin (by decide) (by rw [hlen]; decide), hA2 _⟩
    · simp at hq; subst hq
      have g17 : act.tmps[17]?.getD undef = .pointer (some ⟨BP, 2, none⟩) := hI.has 6 17 rfl (hall ⟨6, .data⟩ (by simp) rfl)
      have hA2 := fun v => AP.other (k := 18) hA (by decide) v
      clear hI hall hcl
      refine .inl ⟨wanted_none rfl, ?_⟩
      unfold Oper.wp
      go_simp
      all_goals exact ⟨_, rfl, Turn.refl _ _, rfl, StV.step (k := 7) hC (Below.refl _ _) hFin (by decide) (by rw [hlen]; decide), hA2 _⟩
    · simp at hq; subst hq
      have g18 : act.tmps[18]?.getD undef = .slice D d.length cd := hI.has 7 18 rfl (hall ⟨7, .data⟩ (by simp) rfl)
      clear hI hall hcl
      refine .inl ⟨wanted_none rfl, ?_⟩
      unfold Oper.wp
      go_simp
      refine (lib_CloneP D cd d w3 (HP.out.2.2.turnW B2.out hC.1 (Nat.le_refl _)) (by omega) (by omega)).mono ?_
      rintro e w4 ⟨cp, g, rfl, ho, hl, b4⟩
      have hz := hC.1.1
      exact ⟨_, rfl, Turn.of_below b4 _, ⟨cp, g, rfl, ho, by omega⟩, StV.step (k := 8) hC b4 hFin (by decide) (by rw [hlen]; decide), AP.new hA b4.size hl ho.1⟩
    · simp at hq; subst hq
      have G13 := hI.has 2 13 rfl (hall ⟨2, .data⟩ (by simp) rfl)
      have G16 := hI.has 5 16 rfl (hall ⟨5, .data⟩ (by simp) rfl)
      have G19 := hI.has 8 19 rfl (hall ⟨8, .data⟩ (by simp) rfl)
      have hA2 := fun v => AP.other (k := 20) hA (by decide) v
      clear hI hall hcl
      refine .inl ⟨wanted_none rfl, ?_⟩
      unfold Oper.wp
      go_simp
      obtain ⟨cp0, bk0, e0, o0, l0⟩ := G13
      obtain ⟨cp1, bk1, e1, o1, l1⟩ := G16
      obtain ⟨cp2, bk2, e2, o2, l2⟩ := G19
      have n01 := hA.2 13 (by decide) 16 (by decide) (by decide) _ _ _ _ _ _ _ _ (by rw [Array.getD_eq_getD_getElem?]; exact e0) (by rw [Array.getD_eq_getD_getElem?]; exact e1)
      have n02 := hA.2 13 (by decide) 19 (by decide) (by decide) _ _ _ _ _ _ _ _ (by rw [Array.getD_eq_getD_getElem?]; exact e0) (by rw [Array.getD_eq_getD_getElem?]; exact e2)
      have n12 := hA.2 16 (by decide) 19 (by decide) (by decide) _ _ _ _ _ _ _ _ (by rw [Array.getD_eq_getD_getElem?]; exact e1) (by rw [Array.getD_eq_getD_getElem?]; exact e2)
      rw [e0, e1, e2]
      go_simp
      exact ⟨_, rfl, Turn.refl _ _, ⟨bk0, bk1, bk2, cp0, cp1, cp2, rfl, o0, o1, o2, l0, l1, l2, n01, n02, n12⟩, StV.step (k := 9) hC (Below.refl _ _) hFin (by decide) (by rw [hlen]; decide), hA2 _⟩
    · simp at hq; subst hq
      have g1 : act.tmps[1]?.getD undef = .pointer (some ⟨w.heap.size, 0, none⟩) := hI.kept 1 (by kernel_rfl)
      have hA2 := fun v => AP.other (k := 21) hA (by decide) v
      clear hI hall hcl
      refine .inl ⟨wanted_none rfl, ?_⟩
      unfold Oper.wp
      go_simp
      all_goals exact ⟨_, rfl, Turn.refl _ _, rfl, StV.step (k := 10) hC (Below.refl _ _) hFin (by decide) (by rw [hlen]; decide), hA2 _⟩
    · simp at hq; subst hq
      have g21 : act.tmps[21]?.getD undef = .pointer (some ⟨w.heap.size, 0, none⟩) := hI.has 10 21 rfl (hall ⟨10, .data⟩ (by simp) rfl)
      have G20 := hI.has 9 20 rfl (hall ⟨9, .data⟩ (by simp) rfl)
      have hA2 := fun v => AP.skip hA v
      clear hI hall hcl
      refine .inl ⟨wanted_none rfl, ?_⟩
      unfold Oper.wp
      go_simp
      obtain ⟨b1, b2, b3, c1, c2, c3, eg, hg⟩ := G20
      have hvs := hC.2.1 hnot
      rw [eg]
      have p0 := (hvs.2 0 _ rfl).1
      have q0 := (hvs.2 0 _ rfl).2
      have p1 := (hvs.2 1 _ rfl).1
      have q1 := (hvs.2 1 _ rfl).2
      have p2 := (hvs.2 2 _ rfl).1
      have q2 := (hvs.2 2 _ rfl).2
      go_simp
      have hf := (((hvs.set (i := 0) (by simp) (.slice (some ⟨b1, 0, none⟩) a.length c1)).set (i := 1) (by simp) (.slice (some ⟨b2, 0, none⟩) l.length c2)).set (i := 2) (by simp) (.slice (some ⟨b3, 0, none⟩) d.length c3))
      have ht := (((Turn.set w3 (B := w.heap.size) ⟨w.heap.size, 0, none⟩ rfl (.slice (some ⟨b1, 0, none⟩) a.length c1)).trans (Turn.set _ (B := w.heap.size) ⟨w.heap.size, 1, none⟩ rfl (.slice (some ⟨b2, 0, none⟩) l.length c2))).trans (Turn.set _ (B := w.heap.size) ⟨w.heap.size, 2, none⟩ rfl (.slice (some ⟨b3, 0, none⟩) d.length c3)))
      have hn := (((hg.setCell (p := ⟨w.heap.size, 0, none⟩) (by show w.heap.size < _; omega) (.slice (some ⟨b1, 0, none⟩) a.length c1)).setCell (p := ⟨w.heap.size, 1, none⟩) (by show w.heap.size < _; omega) (.slice (some ⟨b2, 0, none⟩) l.length c2)).setCell (p := ⟨w.heap.size, 2, none⟩) (by show w.heap.size < _; omega) (.slice (some ⟨b3, 0, none⟩) d.length c3))
      have hst := StV.store (st := 11) hC ht (by rw [hlen]; decide) ⟨b1, b2, b3, c1, c2, c3, hf, hn⟩
      have hap := (hA2 undef).grow ht.1
      first | exact ⟨ht, trivial, hst, hap⟩ | exact ⟨ht, hst, hap⟩
    · simp at hq
  case hend =>
    intro listed act w3 hI hCA hall
    obtain ⟨hC, hA⟩ := hCA
    have hlen : listed.size = 12 := hI.len
    obtain ⟨kx0, kx1, kx2⟩ := (LP.out.turnS hC.1 (by intro e; omega)).three
    obtain ⟨b1, b2, b3, c1, c2, c3, hf, hown⟩ := hC.2.2 (hall 11 (by decide))
    have ht := hC.1
    have g0 := hI.kept 0 (by kernel_rfl)
    conv at g0 => rhs; whnf
    have g1 := hI.kept 1 (by kernel_rfl)
    conv at g1 => rhs; whnf
    have g2 := hI.kept 2 (by kernel_rfl)
    conv at g2 => rhs; whnf
    have g3 := hI.kept 3 (by kernel_rfl)
    conv at g3 => rhs; whnf
    have g4 := hI.kept 4 (by kernel_rfl)
    conv at g4 => rhs; whnf
    have g5 := hI.kept 5 (by kernel_rfl)
    conv at g5 => rhs; whnf
    have g6 := hI.kept 6 (by kernel_rfl)
    conv at g6 => rhs; whnf
    have g7 := hI.kept 7 (by kernel_rfl)
    conv at g7 => rhs; whnf
    have g8 := hI.kept 8 (by kernel_rfl)
    conv at g8 => rhs; whnf
    have g9 := hI.kept 9 (by kernel_rfl)
    conv at g9 => rhs; whnf
    have g10 := hI.kept 10 (by kernel_rfl)
    conv at g10 => rhs; whnf
    have g22 : act.tmps[22]?.getD undef = undef := hI.kept 22 (by kernel_rfl)
    have hsz : act.tmps.size = 23 := hI.size.trans (by kernel_rfl)
    have hd := hI.defers
    clear hI hall hFin hC hA
    obtain ⟨tt, dd⟩ := act
    simp only at g0 g1 g2 g3 g4 g5 g6 g7 g8 g9 g10 g22 hsz hd
    subst hd
    have hl : tt = #[tt[0]?.getD undef, tt[1]?.getD undef, tt[2]?.getD undef, tt[3]?.getD undef, tt[4]?.getD undef, tt[5]?.getD undef, tt[6]?.getD undef, tt[7]?.getD undef, tt[8]?.getD undef, tt[9]?.getD undef, tt[10]?.getD undef, tt[11]?.getD undef, tt[12]?.getD undef, tt[13]?.getD undef, tt[14]?.getD undef, tt[15]?.getD undef, tt[16]?.getD undef, tt[17]?.getD undef, tt[18]?.getD undef, tt[19]?.getD undef, tt[20]?.getD undef, tt[21]?.getD undef, tt[22]?.getD undef] := (arr_lit hsz).trans rfl
    rw [g0, g1, g2, g3, g4, g5, g6, g7, g8, g9, g10, g22] at hl
    clear g0 g1 g2 g3 g4 g5 g6 g7 g8 g9 g10 g22 hsz
    generalize tt[11]?.getD undef = y11 at hl
    generalize tt[12]?.getD undef = y12 at hl
    generalize tt[13]?.getD undef = y13 at hl
    generalize tt[14]?.getD undef = y14 at hl
    generalize tt[15]?.getD undef = y15 at hl
    generalize tt[16]?.getD undef = y16 at hl
    generalize tt[17]?.getD undef = y17 at hl
    generalize tt[18]?.getD undef = y18 at hl
    generalize tt[19]?.getD undef = y19 at hl
    generalize tt[20]?.getD undef = y20 at hl
    generalize tt[21]?.getD undef = y21 at hl
    subst hl
    have LR3 : Hid (BlkL w3 (w.heap.size + 1) [.slice none 0 0, .slice none 0 0, .slice none 0 0, .slice none 0 0, .int .i64 0, .float .f32 0, .float .f32 0]) := Lib.hid (LR.out.turnS ht (by intro e; omega))
    have hbw : Hid (Below w.heap.size w w3) := Lib.hid (ht.2.2.2 w B2.out (fun b hb => by have hb : b = w.heap.size := hb; omega))
    obtain ⟨k0, k1, k2, k3, k4, k5, k6⟩ := BlkL.sevenT hf
    have HO := Lib.hid hown
    clear ht hf hown
    have p0 := (LR3.out.2 0 _ rfl).1
    have q0 := (LR3.out.2 0 _ rfl).2
    have p1 := (LR3.out.2 1 _ rfl).1
    have q1 := (LR3.out.2 1 _ rfl).2
    have p2 := (LR3.out.2 2 _ rfl).1
    have q2 := (LR3.out.2 2 _ rfl).2
    have p3 := (LR3.out.2 3 _ rfl).1
    have q3 := (LR3.out.2 3 _ rfl).2
    have p4 := (LR3.out.2 4 _ rfl).1
    have q4 := (LR3.out.2 4 _ rfl).2
    have p5 := (LR3.out.2 5 _ rfl).1
    have q5 := (LR3.out.2 5 _ rfl).2
    have p6 := (LR3.out.2 6 _ rfl).1
    have q6 := (LR3.out.2 6 _ rfl).2
    go_wp2
    refine bodyPost_ret (v := .tuple #[.agg #[.slice (some ⟨b1, 0, none⟩) a.length c1, .slice (some ⟨b2, 0, none⟩) l.length c2, .slice (some ⟨b3, 0, none⟩) d.length c3, .slice S n cs, .int .i64 c, .float .f32 hub, .float .f32 tip], .bool true]) ?_ (by first | rfl | exact hd) ?_
    · simp [results, Try.results75, go_sem, p0, p1, p2, p3, p4, p5, p6]
    · obtain ⟨o1, o2, o3, g1, g2, g3, n1, n2, n3⟩ := (((((((HO.out).setCell (p := ⟨w.heap.size + 1, 0, none⟩) (by show w.heap.size + 1 < _; omega) _).setCell (p := ⟨w.heap.size + 1, 1, none⟩) (by show w.heap.size + 1 < _; omega) _).setCell (p := ⟨w.heap.size + 1, 2, none⟩) (by show w.heap.size + 1 < _; omega) _).setCell (p := ⟨w.heap.size + 1, 3, none⟩) (by show w.heap.size + 1 < _; omega) _).setCell (p := ⟨w.heap.size + 1, 4, none⟩) (by show w.heap.size + 1 < _; omega) _).setCell (p := ⟨w.heap.size + 1, 5, none⟩) (by show w.heap.size + 1 < _; omega) _).setCell (p := ⟨w.heap.size + 1, 6, none⟩) (by show w.heap.size + 1 < _; omega) _
      exact ⟨b1, b2, b3, c1, c2, c3, rfl, ⟨o1, o2, o3, by omega, by omega, by omega, n1, n2, n3⟩, (((((((hbw.out).setCell (p := ⟨w.heap.size + 1, 0, none⟩) (by show w.heap.size ≤ w.heap.size + 1; omega) _).setCell (p := ⟨w.heap.size + 1, 1, none⟩) (by show w.heap.size ≤ w.heap.size + 1; omega) _).setCell (p := ⟨w.heap.size + 1, 2, none⟩) (by show w.heap.size ≤ w.heap.size + 1; omega) _).setCell (p := ⟨w.heap.size + 1, 3, none⟩) (by show w.heap.size ≤ w.heap.size + 1; omega) _).setCell (p := ⟨w.heap.size + 1, 4, none⟩) (by show w.heap.size ≤ w.heap.size + 1; omega) _).setCell (p := ⟨w.heap.size + 1, 5, none⟩) (by show w.heap.size ≤ w.heap.size + 1; omega) _).setCell (p := ⟨w.heap.size + 1, 6, none⟩) (by show w.heap.size ≤ w.heap.size + 1; omega) _⟩
end Go.Proofs.Ytiiiigldpbomkaa
