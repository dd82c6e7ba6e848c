/- DropPlace: the program. No statement is proved here. -/
import Derived.Test.YtiiiigldpbomkaaPlaV
import Derived.IntWalk
namespace Go.Proofs.Ytiiiigldpbomkaa
open Go Go.RowKit
theorem Fl.takeP' {w : World} {b off j : Nat} {xs : List Nat} (h : Fl w (some ⟨b, off, none⟩) xs) : Fl w (some ⟨b, off, none⟩) (xs.take j) := by
  rcases h with h | ⟨b', o', e, h1, h2⟩
  · left; rw [h]; simp
  · simp only [Option.some.injEq, Addr.mk.injEq] at e
    obtain ⟨rfl, rfl, -⟩ := e
    refine .inr ⟨_, _, rfl, h1, fun k hk => ?_⟩
    rw [List.length_take] at hk
    have := h2 k (by omega)
    rw [this]
    simp [List.getD, List.getElem?_take, (by omega : k < j)]
theorem Fl.dropP {w : World} {b off j : Nat} {xs : List Nat} (h : Fl w (some ⟨b, off, none⟩) xs) : Fl w (some ⟨b, off + j, none⟩) (xs.drop j) := by
  rcases h with h | ⟨b', o', e, h1, h2⟩
  · left; rw [h]; simp
  · simp only [Option.some.injEq, Addr.mk.injEq] at e
    obtain ⟨rfl, rfl, -⟩ := e
    refine .inr ⟨_, _, rfl, h1, fun k hk => ?_⟩
    rw [List.length_drop] at hk
    have := h2 (j + k) (by omega)
    rw [Nat.add_assoc, this]
    simp [List.getD, List.getElem?_drop]
theorem Fl.dropE {w : World} {p : Option Addr} {j : Nat} {xs : List Nat} (hj : xs.length ≤ j) : Fl w p (xs.drop j) := .inl (List.drop_of_length_le hj)
/-- a part of a list that came in -/
def Cut (RB n : Nat) (xs : List Nat) (W : World) (v : Value) : Prop := ∃ b o c, v = .slice (some ⟨b, o, none⟩) n c ∧ Fl W (some ⟨b, o, none⟩) xs ∧ b < RB
theorem Cut.turn {RB n : Nat} {xs : List Nat} {W W' : World} {v : Value} (h : Cut RB n xs W v) (ht : Turn W W' (fun b => b = RB)) (_hb : 0 < 1) : Cut RB n xs W' v := by
  obtain ⟨b, o, c, rfl, h1, h2⟩ := h
  exact ⟨b, o, c, rfl, h1.turnB ht (fun b' o' e => by cases e; omega), h2⟩
def PairD (RB B0 : Nat) (A : Option Addr) (n c n' : Nat) (xs : List Nat) (W : World) (v : Value) : Prop := ∃ b2 o2 c2, Pair B0 A (some ⟨b2, o2, none⟩) n c n' c2 W v ∧ Fl W (some ⟨b2, o2, none⟩) xs ∧ b2 < RB
theorem PairD.turn {RB B0 : Nat} {A : Option Addr} {n c n' : Nat} {xs : List Nat} {W W' : World} {v : Value} (h : PairD RB B0 A n c n' xs W v) (ht : Turn W W' (fun b => b = RB)) (hb : RB < B0) : PairD RB B0 A n c n' xs W' v := by
  obtain ⟨b2, o2, c2, h1, h2, h3⟩ := h
  exact ⟨b2, o2, c2, h1.turn ht hb, h2.turnB ht (fun b o e => by cases e; omega), h3⟩
theorem lib_PairN (b off b' off' ca cl Bs n n' m : Nat) (a l xs : List Nat) (w : World) (e1 : a.length = n) (e2 : l.length = n') (hA : Fl w (some ⟨b, off, none⟩) a) (hL : Fl w (some ⟨b', off', none⟩) l) (hk : BlkL w Bs [.slice (some ⟨b, off, none⟩) n ca, .slice (some ⟨b', off', none⟩) n' cl]) (hn : n + n' ≤ 1048576) (h1 : 1 ≤ n + n') (hm : n + n' = m) (hx : xs = a ++ l) :
    Calls Try.prog 132 #[.slice (some ⟨Bs, 0, none⟩) 2 2] w fun e w' => ∃ v cp g, e = .returned v ∧ v = .slice (some ⟨g, 0, none⟩) m cp ∧ Own w' g xs ∧ w.heap.size ≤ g ∧ Below w.heap.size w w' := by
  subst hm
  subst hx
  exact lib_Pair b off b' off' ca cl Bs n n' a l w e1 e2 hA hL hk hn h1
set_option maxHeartbeats 4000000 in
theorem lib_GrowNil0 (w : World) :
    Calls Try.prog 175 #[.slice none 0 0, .int .i64 0] w fun e w' => e = .returned (.slice none 0 0) ∧ w' = w := by
  go_enter Try.func175, Try.ntmps175
  go_wp2
  go_ret
  exact ⟨rfl, rfl⟩
set_option maxHeartbeats 8000000 in
set_option maxRecDepth 100000 in
theorem lib_Concat0 (b1 o1 b2 o2 n1 c1 n2 c2 Bs : Nat) (w : World) (hk : BlkL w Bs [.slice (some ⟨b1, o1, none⟩) n1 c1, .slice (some ⟨b2, o2, none⟩) n2 c2]) (h1 : n1 = 0) (h2 : n2 = 0) :
    Calls Try.prog 132 #[.slice (some ⟨Bs, 0, none⟩) 2 2] w fun e w' => e = .returned (.slice none 0 0) ∧ Below w.heap.size w w' := by
  subst h1
  subst h2
  have k0 := (hk.2 0 _ rfl).1
  have k1 := (hk.2 1 _ rfl).1
  clear hk
  go_enter Try.func132, Try.ntmps132
  go_wp2
  go_loopw [3, 11] (fun s i wr => ∃ k : Nat, k ≤ 2 ∧ i = .int .i64 k ∧ s = .int .i64 0 ∧ wr = w) (fun _ i _ => 2 - (intOf i).toNat)
  case atStart => exact ⟨0, by omega, rfl, rfl, rfl⟩
  case round =>
    obtain ⟨k, hk, rfl, rfl, hw⟩ := hrel
    have hw2 := hw.symm
    clear hw
    subst hw2
    have hk3 : k = 0 ∨ k = 1 ∨ k = 2 := by omega
    rcases hk3 with rfl | rfl | rfl
    · go_wp2
      go_roundw
      case rel => exact ⟨1, by omega, by first | rfl | trivial | go_num, by first | rfl | trivial | (simp; done) | go_num, by first | rfl | trivial⟩
      case measure => simp [intOf]
    · go_wp2
      go_roundw
      case rel => exact ⟨2, by omega, by first | rfl | trivial | go_num, by first | rfl | trivial | (simp; done) | go_num, by first | rfl | trivial⟩
      case measure => simp [intOf]
    · clear hk
      go_wp2_with fail
      refine (lib_GrowNil0 _).mono ?_
      rintro e w1 ⟨rfl, rfl⟩
      go_wp2
      go_loopw [6, 27] (fun s i wr => ∃ (k : Nat), k ≤ 2 ∧ i = .int .i64 k ∧ s = .slice none 0 0 ∧ wr = w1) (fun _ i _ => 2 - (intOf i).toNat)
      case atStart => exact ⟨0, by omega, rfl, rfl, rfl⟩
      case round =>
        obtain ⟨k, hk, rfl, rfl, hw⟩ := hrel
        have hw2 := hw.symm
        clear hw
        subst hw2
        have hk3 : k = 0 ∨ k = 1 ∨ k = 2 := by omega
        rcases hk3 with rfl | rfl | rfl
        · go_wp2
          go_roundw
          case rel => exact ⟨1, by omega, by first | rfl | trivial | go_num, by first | rfl | trivial | (simp; done) | go_num, by first | rfl | trivial⟩
          case measure => simp [intOf]
        · go_wp2
          go_roundw
          case rel => exact ⟨2, by omega, by first | rfl | trivial | go_num, by first | rfl | trivial | (simp; done) | go_num, by first | rfl | trivial⟩
          case measure => simp [intOf]
        · go_wp2
          go_ret
          exact ⟨rfl, Below.refl _ _⟩
theorem i_withPl0 (X0 Y0 : Option Addr) (n0 c0 m0 d0 B0 fr fd fs : Nat) (X Y : List Nat) (O : Bool) (w : World) (hO : O = false) :
    Calls Try.prog 131 #[.agg #[.slice X0 n0 c0, .slice Y0 m0 d0, .float .f32 fr, .float .f32 fd, .float .f32 fs], .slice none 0 0, .slice none 0 0] w fun e w' => ∃ v, e = .returned v ∧ FGiv B0 O X Y fr fd fs w' v ∧ Below w.heap.size w w' := by
  refine (i_withPlaces_no X0 Y0 n0 c0 m0 d0 none none 0 0 [] [] fr fd fs w ⟨.inl rfl, .inl rfl⟩ (by simp [FewS]) (frmV_no (fun h => by have := h.1; simp at this))).mono ?_
  rintro e w' ⟨rfl, hb⟩
  subst hO
  exact ⟨_, rfl, ⟨none, none, 0, 0, 0, 1, rfl, .inl rfl, .inl rfl, by decide⟩, hb⟩
set_option maxHeartbeats 16000000 in
set_option maxRecDepth 100000 in
theorem i_DropPlace (X Y : Option Addr) (cx cy : Nat) (fx fy : List Nat) (fr fd fs : Nat) (i : Int) (w : World) (h : Rs w X Y fx fy) (hn : FewS fx fy) (hcx : fx.length ≤ cx) (hcy : fy.length ≤ cy) :
    Calls Try.prog 59 #[.agg #[.slice X fx.length cx, .slice Y fy.length cy, .float .f32 fr, .float .f32 fd, .float .f32 fs], .int .i64 i] w fun e w' => ∃ (R1 R2 : Option Addr) (c1 c2 g1 g2 : Nat), e = .returned (.tuple #[.agg #[.slice R1 (gL (plcO fx fy fr fd fs (hasF fx.length i) (fx.eraseIdx i.toNat) (fy.eraseIdx i.toNat)) (fx.eraseIdx i.toNat)).length c1, .slice R2 (gL (plcO fx fy fr fd fs (hasF fx.length i) (fx.eraseIdx i.toNat) (fy.eraseIdx i.toNat)) (fy.eraseIdx i.toNat)).length c2, .float .f32 (gF (plcO fx fy fr fd fs (hasF fx.length i) (fx.eraseIdx i.toNat) (fy.eraseIdx i.toNat)) fr), .float .f32 (gF (plcO fx fy fr fd fs (hasF fx.length i) (fx.eraseIdx i.toNat) (fy.eraseIdx i.toNat)) fd), .float .f32 (gF (plcO fx fy fr fd fs (hasF fx.length i) (fx.eraseIdx i.toNat) (fy.eraseIdx i.toNat)) fs)], .bool (plcO fx fy fr fd fs (hasF fx.length i) (fx.eraseIdx i.toNat) (fy.eraseIdx i.toNat))]) ∧ OwnR2 w' w.heap.size R1 R2 g1 g2 (gL (plcO fx fy fr fd fs (hasF fx.length i) (fx.eraseIdx i.toNat) (fy.eraseIdx i.toNat)) (fx.eraseIdx i.toNat)) (gL (plcO fx fy fr fd fs (hasF fx.length i) (fx.eraseIdx i.toNat) (fy.eraseIdx i.toNat)) (fy.eraseIdx i.toNat)) ∧ Below w.heap.size w w' := by
  have HP := Lib.hid h; clear h
  have HON : Hid (frmV fx fy fr fd fs = false → plcO fx fy fr fd fs (hasF fx.length i) (fx.eraseIdx i.toNat) (fy.eraseIdx i.toNat) = false) := Lib.hid plcO_v
  have HOK : Hid (hasF fx.length i = false → plcO fx fy fr fd fs (hasF fx.length i) (fx.eraseIdx i.toNat) (fy.eraseIdx i.toNat) = false) := Lib.hid plcO_k
  have HOY : Hid (frmV fx fy fr fd fs = true → hasF fx.length i = true → plcO fx fy fr fd fs (hasF fx.length i) (fx.eraseIdx i.toNat) (fy.eraseIdx i.toNat) = frmV (fx.eraseIdx i.toNat) (fy.eraseIdx i.toNat) fr fd fs) := Lib.hid (fun h1 h2 => plcO_y h1 h2)
  generalize plcO fx fy fr fd fs (hasF fx.length i) (fx.eraseIdx i.toNat) (fy.eraseIdx i.toNat) = O at HON HOK HOY ⊢
  obtain ⟨X', HXE⟩ : ∃ z, Hid (z = (fx.eraseIdx i.toNat)) := ⟨_, rfl⟩
  obtain ⟨Y', HYE⟩ : ∃ z, Hid (z = (fy.eraseIdx i.toNat)) := ⟨_, rfl⟩
  rw [← HXE.out, ← HYE.out] at HOY ⊢
  obtain ⟨w0, hw0⟩ : ∃ x, x = (w.alloc (.cells #[.slice X fx.length cx, .slice Y fy.length cy, .float .f32 fr, .float .f32 fd, .float .f32 fs] 79)).alloc (.cells #[.slice none 0 0, .slice none 0 0, .float .f32 0, .float .f32 0, .float .f32 0] 79) := ⟨_, rfl⟩
  have K0 : Hid (BlkL w0 w.heap.size [.slice X fx.length cx, .slice Y fy.length cy, .float .f32 fr, .float .f32 fd, .float .f32 fs]) := Lib.hid (by rw [hw0]; exact (blkL_at w #[.slice X fx.length cx, .slice Y fy.length cy, .float .f32 fr, .float .f32 fd, .float .f32 fs] _ rfl).alloc _)
  have KR : Hid (BlkL w0 (w.heap.size + 1) [.slice none 0 0, .slice none 0 0, .float .f32 0, .float .f32 0, .float .f32 0]) := Lib.hid (by rw [hw0]; exact blkL_at (w.alloc _) #[.slice none 0 0, .slice none 0 0, .float .f32 0, .float .f32 0, .float .f32 0] _ (by simp))
  have B0 : Hid (Below w.heap.size w w0) := Lib.hid (by rw [hw0]; exact ((Below.refl _ _).alloc (Nat.le_refl _) _).alloc (by simp) _)
  have Z0 : Hid (w0.heap.size = w.heap.size + 2) := Lib.hid (by rw [hw0]; simp)
  go_enter Try.func59, Try.ntmps59
  go_wp2_with fail
  rw [← hw0]
  clear hw0
  refine (i_ValidFarm X Y cx cy fx fy fr fd fs _ ⟨HP.out.1.below B0.out, HP.out.2.below B0.out⟩ hn).mono ?_
  rintro e w1 ⟨rfl, b1⟩
  have L0 : Hid (BlkL w1 w.heap.size [.slice X fx.length cx, .slice Y fy.length cy, .float .f32 fr, .float .f32 fd, .float .f32 fs]) := Lib.hid (K0.out.below b1)
  have LR : Hid (BlkL w1 (w.heap.size + 1) [.slice none 0 0, .slice none 0 0, .float .f32 0, .float .f32 0, .float .f32 0]) := Lib.hid (KR.out.below b1)
  have B1 : Hid (Below w.heap.size w w1) := Lib.hid (below_of B0.out B0.out.size b1)
  have Z1 : Hid (w.heap.size + 2 ≤ w1.heap.size) := Lib.hid (by have := b1.size; have := Z0.out; omega)
  clear b1 K0 KR B0 Z0
  cases v0 : frmV fx fy fr fd fs
  · have HN := Lib.hid (HON.out v0)
    clear v0
    have p0 := (LR.out.2 0 _ rfl).1
    have q0 := (LR.out.2 0 _ rfl).2
    have p1 := (LR.out.2 1 _ rfl).1
    have q1 := (LR.out.2 1 _ rfl).2
    have p2 := (LR.out.2 2 _ rfl).1
    have q2 := (LR.out.2 2 _ rfl).2
    have p3 := (LR.out.2 3 _ rfl).1
    have q3 := (LR.out.2 3 _ rfl).2
    have p4 := (LR.out.2 4 _ rfl).1
    have q4 := (LR.out.2 4 _ rfl).2
    go_wp2
    refine bodyPost_ret (v := .tuple #[.agg #[.slice none 0 0, .slice none 0 0, .float .f32 0, .float .f32 0, .float .f32 0], .bool false]) ?_ rfl ?_
    · simp [results, Try.results59, go_sem, p0, p1, p2, p3, p4]
    · rw [HN.out]
      exact ⟨none, none, 0, 0, 0, 1, rfl, ⟨.inl rfl, .inl rfl, by decide⟩, (((((B1.out).setCell (p := ⟨w.heap.size + 1, 0, none⟩) (by show w.heap.size ≤ w.heap.size + 1; omega) _).setCell (p := ⟨w.heap.size + 1, 1, none⟩) (by show w.heap.size ≤ w.heap.size + 1; omega) _).setCell (p := ⟨w.heap.size + 1, 2, none⟩) (by show w.heap.size ≤ w.heap.size + 1; omega) _).setCell (p := ⟨w.heap.size + 1, 3, none⟩) (by show w.heap.size ≤ w.heap.size + 1; omega) _).setCell (p := ⟨w.heap.size + 1, 4, none⟩) (by show w.heap.size ≤ w.heap.size + 1; omega) _⟩
  · obtain ⟨hx, hx2, hy2⟩ := frmV_sized v0
    have hy : 1 ≤ fy.length := by omega
    have hy12 : fy.length ≤ 12 := by omega
    have HYL : Hid (fy.length = fx.length) := Lib.hid hy2
    have V0 := Lib.hid v0
    clear v0 hy2
    obtain ⟨m0, m1, m2, m3, m4⟩ := L0.out.five
    go_wp2_with fail
    refine (i_hasRotor X Y cx cy fx fy fr fd fs i _).mono ?_
    rintro e w2 ⟨rfl, b2⟩
    clear m0 m1 m2 m3 m4
    have L2 : Hid (BlkL w2 w.heap.size [.slice X fx.length cx, .slice Y fy.length cy, .float .f32 fr, .float .f32 fd, .float .f32 fs]) := Lib.hid (L0.out.below b2)
    have LR2 : Hid (BlkL w2 (w.heap.size + 1) [.slice none 0 0, .slice none 0 0, .float .f32 0, .float .f32 0, .float .f32 0]) := Lib.hid (LR.out.below b2)
    have B2 : Hid (Below w.heap.size w w2) := Lib.hid (below_of B1.out B1.out.size b2)
    have Z2 : Hid (w.heap.size + 2 ≤ w2.heap.size) := Lib.hid (by have := b2.size; have := Z1.out; omega)
    clear b2 L0 LR B1 Z1
    cases v1 : hasF fx.length i
    · have HN := Lib.hid (HOK.out v1)
      clear v1
      have p0 := (LR2.out.2 0 _ rfl).1
      have q0 := (LR2.out.2 0 _ rfl).2
      have p1 := (LR2.out.2 1 _ rfl).1
      have q1 := (LR2.out.2 1 _ rfl).2
      have p2 := (LR2.out.2 2 _ rfl).1
      have q2 := (LR2.out.2 2 _ rfl).2
      have p3 := (LR2.out.2 3 _ rfl).1
      have q3 := (LR2.out.2 3 _ rfl).2
      have p4 := (LR2.out.2 4 _ rfl).1
      have q4 := (LR2.out.2 4 _ rfl).2
      go_wp2
      refine bodyPost_ret (v := .tuple #[.agg #[.slice none 0 0, .slice none 0 0, .float .f32 0, .float .f32 0, .float .f32 0], .bool false]) ?_ rfl ?_
      · simp [results, Try.results59, go_sem, p0, p1, p2, p3, p4]
      · rw [HN.out]
        exact ⟨none, none, 0, 0, 0, 1, rfl, ⟨.inl rfl, .inl rfl, by decide⟩, (((((B2.out).setCell (p := ⟨w.heap.size + 1, 0, none⟩) (by show w.heap.size ≤ w.heap.size + 1; omega) _).setCell (p := ⟨w.heap.size + 1, 1, none⟩) (by show w.heap.size ≤ w.heap.size + 1; omega) _).setCell (p := ⟨w.heap.size + 1, 2, none⟩) (by show w.heap.size ≤ w.heap.size + 1; omega) _).setCell (p := ⟨w.heap.size + 1, 3, none⟩) (by show w.heap.size ≤ w.heap.size + 1; omega) _).setCell (p := ⟨w.heap.size + 1, 4, none⟩) (by show w.heap.size ≤ w.heap.size + 1; omega) _⟩
    · have HO := Lib.hid (HOY.out V0.out v1)
      unfold hasF at v1
      obtain ⟨k, hik⟩ : ∃ k : Nat, i = k := ⟨i.toNat, by have := of_decide_eq_true v1; omega⟩
      have hlt : k < fx.length := by have := of_decide_eq_true v1; omega
      have hlt2 : k < fy.length := by have := HYL.out; omega
      subst hik
      clear v1 HON HOK HOY
      have HXD : Hid (X' = fx.take k ++ fx.drop (k + 1)) := Lib.hid (by rw [HXE.out]; exact List.eraseIdx_eq_take_drop_succ ..)
      have HYD : Hid (Y' = fy.take k ++ fy.drop (k + 1)) := Lib.hid (by rw [HYE.out]; exact List.eraseIdx_eq_take_drop_succ ..)
      have HLX : Hid (X'.length = fx.length - 1) := Lib.hid (by rw [HXD.out]; simp; omega)
      have HLY : Hid (Y'.length = fy.length - 1) := Lib.hid (by rw [HYD.out]; simp; omega)
      have HSM : Hid (fx.length ≤ 12 ∧ fy.length ≤ 12) := Lib.hid ⟨hx2, hy12⟩
      clear HXE HYE V0
      obtain ⟨bA, oA, rfl, hbA, -⟩ := HP.out.1.at_ (k := 0) (by omega)
      obtain ⟨bL, oL, rfl, hbL, -⟩ := HP.out.2.at_ (k := 0) (by omega)
      have HBB : Hid (bA < w.heap.size + 1 ∧ bL < w.heap.size + 1) := Lib.hid ⟨by omega, by omega⟩
      have hw1 : IntKind.i64.wrap ((k : Int) + 1) = ((k + 1 : Nat) : Int) := by rw [IntWalk.i64_in _ (by omega)]; omega
      clear hbA hbL
      have z2 := Z2.out
      have hq1 : k ≤ cx := by omega
      have hq2 : k ≤ cy := by omega
      have hq3 : (0 : Int) ≤ (k : Int) + 1 := by omega
      have hq4 : (k : Int) + 1 ≤ (fx.length : Int) := by omega
      have hq5 : (k : Int) + 1 ≤ (fy.length : Int) := by omega
      by_cases h2 : 2 ≤ fx.length
      · have h2y : 2 ≤ fy.length := by have := HYL.out; omega
        go_wp2_with fail
        have hFin := FFin.below (w.heap.size + 1) w2.heap.size O X' Y' fr fd fs
        refine wp_region_inv7 (fun iq wv v => match iq with
          | 0 => v = .agg #[.slice (some ⟨bA, oA, none⟩) fx.length cx, .slice (some ⟨bL, oL, none⟩) fy.length cy, .float .f32 fr, .float .f32 fd, .float .f32 fs]
          | 1 => v = .pointer (some ⟨w.heap.size, 0, none⟩)
          | 2 => v = .slice (some ⟨bA, oA, none⟩) fx.length cx
          | 3 => v = .int .i64 k
          | 4 => v = .slice (some ⟨bA, oA, none⟩) k cx
          | 5 => v = .pointer (some ⟨w.heap.size, 0, none⟩)
          | 6 => v = .slice (some ⟨bA, oA, none⟩) fx.length cx
          | 7 => v = .int .i64 k
          | 8 => v = .int .i64 (k + 1 : Nat)
          | 9 => Cut (w.heap.size + 1) (fx.length - (k + 1)) (fx.drop (k + 1)) wv v
          | 10 => PairD (w.heap.size + 1) w2.heap.size (some ⟨bA, oA, none⟩) k cx (fx.length - (k + 1)) (fx.drop (k + 1)) wv v
          | 11 => LNew w2.heap.size (fx.length - 1) X' wv v
          | 12 => v = .pointer (some ⟨w.heap.size, 1, none⟩)
          | 13 => v = .slice (some ⟨bL, oL, none⟩) fy.length cy
          | 14 => v = .int .i64 k
          | 15 => v = .slice (some ⟨bL, oL, none⟩) k cy
          | 16 => v = .pointer (some ⟨w.heap.size, 1, none⟩)
          | 17 => v = .slice (some ⟨bL, oL, none⟩) fy.length cy
          | 18 => v = .int .i64 k
          | 19 => v = .int .i64 (k + 1 : Nat)
          | 20 => Cut (w.heap.size + 1) (fy.length - (k + 1)) (fy.drop (k + 1)) wv v
          | 21 => PairD (w.heap.size + 1) w2.heap.size (some ⟨bL, oL, none⟩) k cy (fy.length - (k + 1)) (fy.drop (k + 1)) wv v
          | 22 => LNew w2.heap.size (fy.length - 1) Y' wv v
          | 23 => FGiv w2.heap.size O X' Y' fr fd fs wv v
          | 24 => FAgg w2.heap.size O X' Y' fr fd fs wv v
          | 25 => v = .bool O
          | 26 => True
          | 27 => v = .bool O
          | _ => False) (fun listed aa ww => StC w2 (w.heap.size + 1) 5 26 (FFin (w.heap.size + 1) w2.heap.size O X' Y' fr fd fs) listed ww ∧ AP [27, 38] aa ww) (fun wa wb => Turn wa wb (fun b => b = (w.heap.size + 1))) ?hmono (by kernel_rfl) (by kernel_rfl) ⟨StC.start LR2.out rfl, AP.start (by rfl)⟩ ?hop ?hend
        case hmono =>
          intro i wa wb v hR hV
          rcases i with _ | _ | _ | _ | _ | _ | _ | _ | _ | _ | _ | _ | _ | _ | _ | _ | _ | _ | _ | _ | _ | _ | _ | _ | _ | _ | _ | _ | i
          · exact hV
          · exact hV
          · exact hV
          · exact hV
          · exact hV
          · exact hV
          · exact hV
          · exact hV
          · exact hV
          · exact hV.turn hR (by omega)
          · exact hV.turn hR (by omega)
          · exact hV.turn hR (by omega)
          · exact hV
          · exact hV
          · exact hV
          · exact hV
          · exact hV
          · exact hV
          · exact hV
          · exact hV
          · exact hV.turn hR (by omega)
          · exact hV.turn hR (by omega)
          · exact hV.turn hR (by omega)
          · exact hV.turn hR (by omega)
          · exact hV.turn hR (by omega)
          · exact hV
          · exact hV
          · exact hV
          · exact hV
        case hop =>
          intro q o hq listed act w3 hI hCA hnot hcl hall
          obtain ⟨hC, hA⟩ := hCA
          have hlen : listed.size = 28 := hI.len
          obtain ⟨kx0, kx1, kx2, kx3, kx4⟩ := (L2.out.turnS hC.1 (by intro e; omega)).five
          rcases q with _ | _ | _ | _ | _ | _ | _ | _ | _ | _ | _ | _ | _ | _ | _ | _ | _ | _ | _ | _ | _ | _ | _ | _ | _ | _ | _ | _ | q
          · simp at hq; subst hq
            have g2 : act.tmps[2]?.getD undef = .pointer (some ⟨w.heap.size, 0, none⟩) := hI.kept 2 (by kernel_rfl)
            have hA2 := fun v => AP.other (k := 16) hA (by decide) v
            clear hI hall hnot hcl
            refine .inl ⟨wanted_none rfl, ?_⟩
            unfold Oper.wp
            go_simp
            all_goals exact ⟨_, rfl, Turn.refl _ _, rfl, StC.step (k := 0) hC (Below.refl _ _) hFin (by decide) (by rw [hlen]; decide), hA2 _⟩
          · simp at hq; subst hq
            have g2 : act.tmps[2]?.getD undef = .pointer (some ⟨w.heap.size, 0, none⟩) := hI.kept 2 (by kernel_rfl)
            have hA2 := fun v => AP.other (k := 17) hA (by decide) v
            clear hI hall hnot hcl
            refine .inl ⟨wanted_none rfl, ?_⟩
            unfold Oper.wp
            go_simp
            all_goals exact ⟨_, rfl, Turn.refl _ _, rfl, StC.step (k := 1) hC (Below.refl _ _) hFin (by decide) (by rw [hlen]; decide), hA2 _⟩
          · simp at hq; subst hq
            have g17 : act.tmps[17]?.getD undef = .pointer (some ⟨w.heap.size, 0, none⟩) := hI.has 1 17 rfl (hall ⟨1, .data⟩ (by simp) rfl)
            have hA2 := fun v => AP.other (k := 18) hA (by decide) v
            clear hI hall hnot hcl
            refine .inl ⟨wanted_none rfl, ?_⟩
            unfold Oper.wp
            go_simp
            all_goals exact ⟨_, rfl, Turn.refl _ _, rfl, StC.step (k := 2) hC (Below.refl _ _) hFin (by decide) (by rw [hlen]; decide), hA2 _⟩
          · simp at hq; subst hq
            have g1 : act.tmps[1]?.getD undef = .int .i64 k := hI.kept 1 (by kernel_rfl)
            have hA2 := fun v => AP.other (k := 19) hA (by decide) v
            clear hI hall hnot hcl
            refine .inl ⟨wanted_none rfl, ?_⟩
            unfold Oper.wp
            go_simp
            all_goals exact ⟨_, rfl, Turn.refl _ _, rfl, StC.step (k := 3) hC (Below.refl _ _) hFin (by decide) (by rw [hlen]; decide), hA2 _⟩
          · simp at hq; subst hq
            have g18 : act.tmps[18]?.getD undef = .slice (some ⟨bA, oA, none⟩) fx.length cx := hI.has 2 18 rfl (hall ⟨2, .data⟩ (by simp) rfl)
            have g19 : act.tmps[19]?.getD undef = .int .i64 k := hI.has 3 19 rfl (hall ⟨3, .data⟩ (by simp) rfl)
            have hA2 := fun v => AP.other (k := 20) hA (by decide) v
            clear hI hall hnot hcl
            refine .inl ⟨wanted_none rfl, ?_⟩
            unfold Oper.wp
            go_simp
            exact ⟨_, rfl, Turn.refl _ _, rfl, StC.step (k := 4) hC (Below.refl _ _) hFin (by decide) (by rw [hlen]; decide), hA2 _⟩
          · simp at hq; subst hq
            have g2 : act.tmps[2]?.getD undef = .pointer (some ⟨w.heap.size, 0, none⟩) := hI.kept 2 (by kernel_rfl)
            have hA2 := fun v => AP.other (k := 21) hA (by decide) v
            clear hI hall hnot hcl
            refine .inl ⟨wanted_none rfl, ?_⟩
            unfold Oper.wp
            go_simp
            all_goals exact ⟨_, rfl, Turn.refl _ _, rfl, StC.step (k := 5) hC (Below.refl _ _) hFin (by decide) (by rw [hlen]; decide), hA2 _⟩
          · simp at hq; subst hq
            have g21 : act.tmps[21]?.getD undef = .pointer (some ⟨w.heap.size, 0, none⟩) := hI.has 5 21 rfl (hall ⟨5, .data⟩ (by simp) rfl)
            have hA2 := fun v => AP.other (k := 22) hA (by decide) v
            clear hI hall hnot hcl
            refine .inl ⟨wanted_none rfl, ?_⟩
            unfold Oper.wp
            go_simp
            all_goals exact ⟨_, rfl, Turn.refl _ _, rfl, StC.step (k := 6) hC (Below.refl _ _) hFin (by decide) (by rw [hlen]; decide), hA2 _⟩
          · simp at hq; subst hq
            have g1 : act.tmps[1]?.getD undef = .int .i64 k := hI.kept 1 (by kernel_rfl)
            have hA2 := fun v => AP.other (k := 23) hA (by decide) v
            clear hI hall hnot hcl
            refine .inl ⟨wanted_none rfl, ?_⟩
            unfold Oper.wp
            go_simp
            all_goals exact ⟨_, rfl, Turn.refl _ _, rfl, StC.step (k := 7) hC (Below.refl _ _) hFin (by decide) (by rw [hlen]; decide), hA2 _⟩
          · simp at hq; subst hq
            have g23 : act.tmps[23]?.getD undef = .int .i64 k := hI.has 7 23 rfl (hall ⟨7, .data⟩ (by simp) rfl)
            have hA2 := fun v => AP.other (k := 24) hA (by decide) v
            clear hI hall hnot hcl
            refine .inl ⟨wanted_none rfl, ?_⟩
            unfold Oper.wp
            go_simp
            all_goals exact ⟨_, rfl, Turn.refl _ _, rfl, StC.step (k := 8) hC (Below.refl _ _) hFin (by decide) (by rw [hlen]; decide), hA2 _⟩
          · simp at hq; subst hq
            have g22 : act.tmps[22]?.getD undef = .slice (some ⟨bA, oA, none⟩) fx.length cx := hI.has 6 22 rfl (hall ⟨6, .data⟩ (by simp) rfl)
            have g24 : act.tmps[24]?.getD undef = .int .i64 (k + 1 : Nat) := hI.has 8 24 rfl (hall ⟨8, .data⟩ (by simp) rfl)
            have hA2 := fun v => AP.other (k := 25) hA (by decide) v
            clear hI hall hnot hcl
            refine .inl ⟨wanted_none rfl, ?_⟩
            unfold Oper.wp
            go_simp
            by_cases he : cx = k + 1
            · go_simp
              exact ⟨_, rfl, Turn.refl _ _, ⟨_, _, _, rfl, Fl.dropE (by omega), HBB.out.1⟩, StC.step (k := 9) hC (Below.refl _ _) hFin (by decide) (by rw [hlen]; decide), hA2 _⟩
            · go_simp
              exact ⟨_, rfl, Turn.refl _ _, ⟨_, _, _, rfl, (HP.out.1.turnF B2.out hC.1 (by omega)).dropP, HBB.out.1⟩, StC.step (k := 9) hC (Below.refl _ _) hFin (by decide) (by rw [hlen]; decide), hA2 _⟩
          · simp at hq; subst hq
            have g20 : act.tmps[20]?.getD undef = .slice (some ⟨bA, oA, none⟩) k cx := hI.has 4 20 rfl (hall ⟨4, .data⟩ (by simp) rfl)
            have G25 := hI.has 9 25 rfl (hall ⟨9, .data⟩ (by simp) rfl)
            have hA2 := fun v => AP.other (k := 26) hA (by decide) v
            clear hI hall hnot hcl
            refine .inl ⟨wanted_none rfl, ?_⟩
            unfold Oper.wp
            go_simp
            obtain ⟨b2, o2, c2, eg, hf, hlo⟩ := G25
            rw [eg]
            go_simp
            exact ⟨_, rfl, Turn.of_below ((Below.refl _ _).alloc (Nat.le_refl _) _) _, ⟨b2, o2, c2, ⟨_, rfl, blkL_at _ #[_, _] _ rfl, hC.1.1⟩, hf.below ((Below.refl _ _).alloc (Nat.le_refl _) _), hlo⟩, StC.step (k := 10) hC ((Below.refl _ _).alloc (Nat.le_refl _) _) hFin (by decide) (by rw [hlen]; decide), (hA2 _).grow (by simp)⟩
          · simp at hq; subst hq
            have G26 := hI.has 10 26 rfl (hall ⟨10, .data⟩ (by simp) rfl)
            clear hI hall hnot hcl
            refine .inl ⟨wanted_none rfl, ?_⟩
            unfold Oper.wp
            go_simp
            obtain ⟨b2, o2, c2, ⟨Bs, eg, hk, hlo2⟩, hf, hlo⟩ := G26
            rw [eg]
            go_simp
            refine (lib_PairN bA oA b2 o2 cx c2 Bs k (fx.length - (k + 1)) (fx.length - 1) (fx.take k) (fx.drop (k + 1)) X' w3 (by simp; omega) (by simp) (HP.out.1.turnF B2.out hC.1 (by omega)).takeP' hf hk (by omega) (by omega) (by omega) HXD.out).mono ?_
            rintro e w4 ⟨v4, cp, g, rfl, rfl, ho, hl, b4⟩
            have hz := hC.1.1
            exact ⟨_, rfl, Turn.of_below b4 _, ⟨cp, g, rfl, ho, by omega⟩, StC.step (k := 11) hC b4 hFin (by decide) (by rw [hlen]; decide), AP.new hA b4.size hl ho.1⟩
          · simp at hq; subst hq
            have g2 : act.tmps[2]?.getD undef = .pointer (some ⟨w.heap.size, 0, none⟩) := hI.kept 2 (by kernel_rfl)
            have hA2 := fun v => AP.other (k := 28) hA (by decide) v
            clear hI hall hnot hcl
            refine .inl ⟨wanted_none rfl, ?_⟩
            unfold Oper.wp
            go_simp
            all_goals exact ⟨_, rfl, Turn.refl _ _, rfl, StC.step (k := 12) hC (Below.refl _ _) hFin (by decide) (by rw [hlen]; decide), hA2 _⟩
          · simp at hq; subst hq
            have g28 : act.tmps[28]?.getD undef = .pointer (some ⟨w.heap.size, 1, none⟩) := hI.has 12 28 rfl (hall ⟨12, .data⟩ (by simp) rfl)
            have hA2 := fun v => AP.other (k := 29) hA (by decide) v
            clear hI hall hnot hcl
            refine .inl ⟨wanted_none rfl, ?_⟩
            unfold Oper.wp
            go_simp
            all_goals exact ⟨_, rfl, Turn.refl _ _, rfl, StC.step (k := 13) hC (Below.refl _ _) hFin (by decide) (by rw [hlen]; decide), hA2 _⟩
          · simp at hq; subst hq
            have g1 : act.tmps[1]?.getD undef = .int .i64 k := hI.kept 1 (by kernel_rfl)
            have hA2 := fun v => AP.other (k := 30) hA (by decide) v
            clear hI hall hnot hcl
            refine .inl ⟨wanted_none rfl, ?_⟩
            unfold Oper.wp
            go_simp
            all_goals exact ⟨_, rfl, Turn.refl _ _, rfl, StC.step (k := 14) hC (Below.refl _ _) hFin (by decide) (by rw [hlen]; decide), hA2 _⟩
          · simp at hq; subst hq
            have g29 : act.tmps[29]?.getD undef = .slice (some ⟨bL, oL, none⟩) fy.length cy := hI.has 13 29 rfl (hall ⟨13, .data⟩ (by simp) rfl)
            have g30 : act.tmps[30]?.getD undef = .int .i64 k := hI.has 14 30 rfl (hall ⟨14, .data⟩ (by simp) rfl)
            have hA2 := fun v => AP.other (k := 31) hA (by decide) v
            clear hI hall hnot hcl
            refine .inl ⟨wanted_none rfl, ?_⟩
            unfold Oper.wp
            go_simp
            exact ⟨_, rfl, Turn.refl _ _, rfl, StC.step (k := 15) hC (Below.refl _ _) hFin (by decide) (by rw [hlen]; decide), hA2 _⟩
          · simp at hq; subst hq
            have g2 : act.tmps[2]?.getD undef = .pointer (some ⟨w.heap.size, 0, none⟩) := hI.kept 2 (by kernel_rfl)
            have hA2 := fun v => AP.other (k := 32) hA (by decide) v
            clear hI hall hnot hcl
            refine .inl ⟨wanted_none rfl, ?_⟩
            unfold Oper.wp
            go_simp
            all_goals exact ⟨_, rfl, Turn.refl _ _, rfl, StC.step (k := 16) hC (Below.refl _ _) hFin (by decide) (by rw [hlen]; decide), hA2 _⟩
          · simp at hq; subst hq
            have g32 : act.tmps[32]?.getD undef = .pointer (some ⟨w.heap.size, 1, none⟩) := hI.has 16 32 rfl (hall ⟨16, .data⟩ (by simp) rfl)
            have hA2 := fun v => AP.other (k := 33) hA (by decide) v
            clear hI hall hnot hcl
            refine .inl ⟨wanted_none rfl, ?_⟩
            unfold Oper.wp
            go_simp
            all_goals exact ⟨_, rfl, Turn.refl _ _, rfl, StC.step (k := 17) hC (Below.refl _ _) hFin (by decide) (by rw [hlen]; decide), hA2 _⟩
          · simp at hq; subst hq
            have g1 : act.tmps[1]?.getD undef = .int .i64 k := hI.kept 1 (by kernel_rfl)
            have hA2 := fun v => AP.other (k := 34) hA (by decide) v
            clear hI hall hnot hcl
            refine .inl ⟨wanted_none rfl, ?_⟩
            unfold Oper.wp
            go_simp
            all_goals exact ⟨_, rfl, Turn.refl _ _, rfl, StC.step (k := 18) hC (Below.refl _ _) hFin (by decide) (by rw [hlen]; decide), hA2 _⟩
          · simp at hq; subst hq
            have g34 : act.tmps[34]?.getD undef = .int .i64 k := hI.has 18 34 rfl (hall ⟨18, .data⟩ (by simp) rfl)
            have hA2 := fun v => AP.other (k := 35) hA (by decide) v
            clear hI hall hnot hcl
            refine .inl ⟨wanted_none rfl, ?_⟩
            unfold Oper.wp
            go_simp
            all_goals exact ⟨_, rfl, Turn.refl _ _, rfl, StC.step (k := 19) hC (Below.refl _ _) hFin (by decide) (by rw [hlen]; decide), hA2 _⟩
          · simp at hq; subst hq
            have g33 : act.tmps[33]?.getD undef = .slice (some ⟨bL, oL, none⟩) fy.length cy := hI.has 17 33 rfl (hall ⟨17, .data⟩ (by simp) rfl)
            have g35 : act.tmps[35]?.getD undef = .int .i64 (k + 1 : Nat) := hI.has 19 35 rfl (hall ⟨19, .data⟩ (by simp) rfl)
            have hA2 := fun v => AP.other (k := 36) hA (by decide) v
            clear hI hall hnot hcl
            refine .inl ⟨wanted_none rfl, ?_⟩
            unfold Oper.wp
            go_simp
            by_cases he : cy = k + 1
            · go_simp
              exact ⟨_, rfl, Turn.refl _ _, ⟨_, _, _, rfl, Fl.dropE (by omega), HBB.out.2⟩, StC.step (k := 20) hC (Below.refl _ _) hFin (by decide) (by rw [hlen]; decide), hA2 _⟩
            · go_simp
              exact ⟨_, rfl, Turn.refl _ _, ⟨_, _, _, rfl, (HP.out.2.turnF B2.out hC.1 (by omega)).dropP, HBB.out.2⟩, StC.step (k := 20) hC (Below.refl _ _) hFin (by decide) (by rw [hlen]; decide), hA2 _⟩
          · simp at hq; subst hq
            have g31 : act.tmps[31]?.getD undef = .slice (some ⟨bL, oL, none⟩) k cy := hI.has 15 31 rfl (hall ⟨15, .data⟩ (by simp) rfl)
            have G36 := hI.has 20 36 rfl (hall ⟨20, .data⟩ (by simp) rfl)
            have hA2 := fun v => AP.other (k := 37) hA (by decide) v
            clear hI hall hnot hcl
            refine .inl ⟨wanted_none rfl, ?_⟩
            unfold Oper.wp
            go_simp
            obtain ⟨b2, o2, c2, eg, hf, hlo⟩ := G36
            rw [eg]
            go_simp
            exact ⟨_, rfl, Turn.of_below ((Below.refl _ _).alloc (Nat.le_refl _) _) _, ⟨b2, o2, c2, ⟨_, rfl, blkL_at _ #[_, _] _ rfl, hC.1.1⟩, hf.below ((Below.refl _ _).alloc (Nat.le_refl _) _), hlo⟩, StC.step (k := 21) hC ((Below.refl _ _).alloc (Nat.le_refl _) _) hFin (by decide) (by rw [hlen]; decide), (hA2 _).grow (by simp)⟩
          · simp at hq; subst hq
            have G37 := hI.has 21 37 rfl (hall ⟨21, .data⟩ (by simp) rfl)
            clear hI hall hnot hcl
            refine .inl ⟨wanted_none rfl, ?_⟩
            unfold Oper.wp
            go_simp
            obtain ⟨b2, o2, c2, ⟨Bs, eg, hk, hlo2⟩, hf, hlo⟩ := G37
            rw [eg]
            go_simp
            refine (lib_PairN bL oL b2 o2 cy c2 Bs k (fy.length - (k + 1)) (fy.length - 1) (fy.take k) (fy.drop (k + 1)) Y' w3 (by simp; omega) (by simp) (HP.out.2.turnF B2.out hC.1 (by omega)).takeP' hf hk (by omega) (by omega) (by omega) HYD.out).mono ?_
            rintro e w4 ⟨v4, cp, g, rfl, rfl, ho, hl, b4⟩
            have hz := hC.1.1
            exact ⟨_, rfl, Turn.of_below b4 _, ⟨cp, g, rfl, ho, by omega⟩, StC.step (k := 22) hC b4 hFin (by decide) (by rw [hlen]; decide), AP.new hA b4.size hl ho.1⟩
          · simp at hq; subst hq
            have g16 : act.tmps[16]?.getD undef = .agg #[.slice (some ⟨bA, oA, none⟩) fx.length cx, .slice (some ⟨bL, oL, none⟩) fy.length cy, .float .f32 fr, .float .f32 fd, .float .f32 fs] := hI.has 0 16 rfl (hall ⟨0, .data⟩ (by simp) rfl)
            have G27 := hI.has 11 27 rfl (hall ⟨11, .data⟩ (by simp) rfl)
            have G38 := hI.has 22 38 rfl (hall ⟨22, .data⟩ (by simp) rfl)
            have hA2 := fun v => AP.other (k := 39) hA (by decide) v
            clear hI hall hnot hcl
            refine .inl ⟨wanted_none rfl, ?_⟩
            unfold Oper.wp
            go_simp
            obtain ⟨cp11, bk11, e11, o11, l11⟩ := G27
            obtain ⟨cp22, bk22, e22, o22, l22⟩ := G38
            have ene := hA.2 27 (by decide) 38 (by decide) (by decide) _ _ _ _ _ _ _ _ (by rw [Array.getD_eq_getD_getElem?]; exact e11) (by rw [Array.getD_eq_getD_getElem?]; exact e22)
            rw [e11, e22]
            go_simp
            refine (i_withPl _ _ _ _ _ _ bk11 bk22 cp11 cp22 (fx.length - 1) (fy.length - 1) w2.heap.size fr fd fs X' Y' O w3 HLX.out HLY.out o11 o22 l11 l22 ene (by have h1 := HLX.out; have h2 := HLY.out; have h3 := HSM.out; unfold FewS; omega) HO.out).mono ?_
            rintro e w4 ⟨v4, rfl, ho, b4⟩
            exact ⟨_, rfl, Turn.of_below b4 _, ho, StC.step (k := 23) hC b4 hFin (by decide) (by rw [hlen]; decide), (hA2 _).grow b4.size⟩
          · simp at hq; subst hq
            have G39 := hI.has 23 39 rfl (hall ⟨23, .data⟩ (by simp) rfl)
            have hA2 := fun v => AP.other (k := 40) hA (by decide) v
            clear hI hall hnot hcl
            refine .inl ⟨wanted_none rfl, ?_⟩
            unfold Oper.wp
            go_simp
            obtain ⟨Ra, Rb, da, db, ka, kb, eg, hg⟩ := G39
            rw [eg]
            go_simp
            exact ⟨_, rfl, Turn.refl _ _, ⟨Ra, Rb, da, db, ka, kb, rfl, hg⟩, StC.step (k := 24) hC (Below.refl _ _) hFin (by decide) (by rw [hlen]; decide), hA2 _⟩
          · simp at hq; subst hq
            have G39 := hI.has 23 39 rfl (hall ⟨23, .data⟩ (by simp) rfl)
            have hA2 := fun v => AP.other (k := 41) hA (by decide) v
            clear hI hall hnot hcl
            refine .inl ⟨wanted_none rfl, ?_⟩
            unfold Oper.wp
            go_simp
            obtain ⟨Ra, Rb, da, db, ka, kb, eg, hg⟩ := G39
            rw [eg]
            go_simp
            exact ⟨_, rfl, Turn.refl _ _, rfl, StC.step (k := 25) hC (Below.refl _ _) hFin (by decide) (by rw [hlen]; decide), hA2 _⟩
          · simp at hq; subst hq
            have g4 : act.tmps[4]?.getD undef = .pointer (some ⟨(w.heap.size + 1), 0, none⟩) := hI.kept 4 (by kernel_rfl)
            have G40 := hI.has 24 40 rfl (hall ⟨24, .data⟩ (by simp) rfl)
            have hA2 := fun v => AP.skip hA v
            clear hI hall hnot hcl
            refine .inl ⟨wanted_none rfl, ?_⟩
            unfold Oper.wp
            go_simp
            obtain ⟨Ra, Rb, da, db, ka, kb, eg, hg⟩ := G40
            rw [eg]
            obtain ⟨vs, hvs, hvl⟩ := hC.2.1
            match vs, hvs, hvl with
            | [a0, a1, a2, a3, a4], hvs, _ =>
            have p0 := (hvs.2 0 _ rfl).1
            have q0 := (hvs.2 0 _ rfl).2
            have p1 := (hvs.2 1 _ rfl).1
            have q1 := (hvs.2 1 _ rfl).2
            have p2 := (hvs.2 2 _ rfl).1
            have q2 := (hvs.2 2 _ rfl).2
            have p3 := (hvs.2 3 _ rfl).1
            have q3 := (hvs.2 3 _ rfl).2
            have p4 := (hvs.2 4 _ rfl).1
            have q4 := (hvs.2 4 _ rfl).2
            go_simp
            have hf := (((((hvs.set (i := 0) (by simp) (.slice Ra (gL O X').length da)).set (i := 1) (by simp) (.slice Rb (gL O Y').length db)).set (i := 2) (by simp) (.float .f32 (gF O fr))).set (i := 3) (by simp) (.float .f32 (gF O fd))).set (i := 4) (by simp) (.float .f32 (gF O fs)))
            have ht := (((((Turn.set w3 (B := (w.heap.size + 1)) ⟨(w.heap.size + 1), 0, none⟩ rfl (.slice Ra (gL O X').length da)).trans (Turn.set _ (B := (w.heap.size + 1)) ⟨(w.heap.size + 1), 1, none⟩ rfl (.slice Rb (gL O Y').length db))).trans (Turn.set _ (B := (w.heap.size + 1)) ⟨(w.heap.size + 1), 2, none⟩ rfl (.float .f32 (gF O fr)))).trans (Turn.set _ (B := (w.heap.size + 1)) ⟨(w.heap.size + 1), 3, none⟩ rfl (.float .f32 (gF O fd)))).trans (Turn.set _ (B := (w.heap.size + 1)) ⟨(w.heap.size + 1), 4, none⟩ rfl (.float .f32 (gF O fs))))
            have hn := (((((hg.setB (p := ⟨(w.heap.size + 1), 0, none⟩) (by show (w.heap.size + 1) < _; omega) (.slice Ra (gL O X').length da)).setB (p := ⟨(w.heap.size + 1), 1, none⟩) (by show (w.heap.size + 1) < _; omega) (.slice Rb (gL O Y').length db)).setB (p := ⟨(w.heap.size + 1), 2, none⟩) (by show (w.heap.size + 1) < _; omega) (.float .f32 (gF O fr))).setB (p := ⟨(w.heap.size + 1), 3, none⟩) (by show (w.heap.size + 1) < _; omega) (.float .f32 (gF O fd))).setB (p := ⟨(w.heap.size + 1), 4, none⟩) (by show (w.heap.size + 1) < _; omega) (.float .f32 (gF O fs)))
            have hst := StC.store (st := 26) hC ht hf rfl ⟨Ra, Rb, da, db, ka, kb, hf, hn⟩
            have hap := (hA2 undef).grow ht.1
            first | exact ⟨ht, trivial, hst, hap⟩ | exact ⟨ht, hst, hap⟩
          · simp at hq; subst hq
            have g41 : act.tmps[41]?.getD undef = .bool O := hI.has 25 41 rfl (hall ⟨25, .data⟩ (by simp) rfl)
            have hA2 := fun v => AP.other (k := 5) hA (by decide) v
            clear hI hall hnot hcl
            refine .inl ⟨wanted_none rfl, ?_⟩
            unfold Oper.wp
            go_simp
            all_goals exact ⟨_, rfl, Turn.refl _ _, rfl, StC.step (k := 27) hC (Below.refl _ _) hFin (by decide) (by rw [hlen]; decide), hA2 _⟩
          · simp at hq
        case hend =>
          intro listed act w3 hI hCA hall
          obtain ⟨hC, hA⟩ := hCA
          have hlen : listed.size = 28 := hI.len
          obtain ⟨kx0, kx1, kx2, kx3, kx4⟩ := (L2.out.turnS hC.1 (by intro e; omega)).five
          obtain ⟨Ra, Rb, da, db, ka, kb, hf, hown⟩ := hC.2.2 (hall 26 (by decide))
          have ht := hC.1
          have g4 : act.tmps[4]?.getD undef = .pointer (some ⟨(w.heap.size + 1), 0, none⟩) := hI.kept 4 (by kernel_rfl)
          have g5 : act.tmps[5]?.getD undef = .bool O := hI.has 27 5 rfl (hall 27 (by decide))
          have hd := hI.defers
          clear hI hall hFin hC hA
          have c0 := (hf.2 0 _ rfl).1
          have c1 := (hf.2 1 _ rfl).1
          have c2 := (hf.2 2 _ rfl).1
          have c3 := (hf.2 3 _ rfl).1
          have c4 := (hf.2 4 _ rfl).1
          go_wp2
          refine bodyPost_ret (v := .tuple #[.agg #[.slice Ra (gL O X').length da, .slice Rb (gL O Y').length db, .float .f32 (gF O fr), .float .f32 (gF O fd), .float .f32 (gF O fs)], .bool O]) (by simp [results, Try.results59, g4, g5, c0, c1, c2, c3, c4, go_sem]) (by first | rfl | exact hd) ?_
          have hbw := ht.2.2.2 w B2.out (fun b hb => by have hb : b = (w.heap.size + 1) := hb; omega)
          first | exact ⟨Ra, Rb, da, db, ka, kb, rfl, hown.baseB B2.out.size, hbw⟩ | exact ⟨Ra, Rb, ⟨da, db, rfl⟩, ⟨ka, kb, hown.baseB B2.out.size⟩, hbw⟩
      · have hk0 : k = 0 := by omega
        have hzx : fx.length - (k + 1) = 0 := by omega
        have hzy : fy.length - (k + 1) = 0 := by have := HYL.out; omega
        have HO0 : Hid (O = false) := Lib.hid (by rw [HO.out]; exact frmV_no (fun h => by have h1 := h.1; have h3 := HLX.out; omega))
        have HK0 := Lib.hid hk0
        have HZX := Lib.hid hzx
        have HZY := Lib.hid hzy
        clear hk0 hzx hzy
        go_wp2_with fail
        have hFin := FFin.below (w.heap.size + 1) w2.heap.size O X' Y' fr fd fs
        refine wp_region_inv7 (fun iq wv v => match iq with
          | 0 => v = .agg #[.slice (some ⟨bA, oA, none⟩) fx.length cx, .slice (some ⟨bL, oL, none⟩) fy.length cy, .float .f32 fr, .float .f32 fd, .float .f32 fs]
          | 1 => v = .pointer (some ⟨w.heap.size, 0, none⟩)
          | 2 => v = .slice (some ⟨bA, oA, none⟩) fx.length cx
          | 3 => v = .int .i64 k
          | 4 => v = .slice (some ⟨bA, oA, none⟩) k cx
          | 5 => v = .pointer (some ⟨w.heap.size, 0, none⟩)
          | 6 => v = .slice (some ⟨bA, oA, none⟩) fx.length cx
          | 7 => v = .int .i64 k
          | 8 => v = .int .i64 (k + 1 : Nat)
          | 9 => Cut (w.heap.size + 1) (fx.length - (k + 1)) (fx.drop (k + 1)) wv v
          | 10 => PairD (w.heap.size + 1) w2.heap.size (some ⟨bA, oA, none⟩) k cx (fx.length - (k + 1)) (fx.drop (k + 1)) wv v
          | 11 => v = .slice none 0 0
          | 12 => v = .pointer (some ⟨w.heap.size, 1, none⟩)
          | 13 => v = .slice (some ⟨bL, oL, none⟩) fy.length cy
          | 14 => v = .int .i64 k
          | 15 => v = .slice (some ⟨bL, oL, none⟩) k cy
          | 16 => v = .pointer (some ⟨w.heap.size, 1, none⟩)
          | 17 => v = .slice (some ⟨bL, oL, none⟩) fy.length cy
          | 18 => v = .int .i64 k
          | 19 => v = .int .i64 (k + 1 : Nat)
          | 20 => Cut (w.heap.size + 1) (fy.length - (k + 1)) (fy.drop (k + 1)) wv v
          | 21 => PairD (w.heap.size + 1) w2.heap.size (some ⟨bL, oL, none⟩) k cy (fy.length - (k + 1)) (fy.drop (k + 1)) wv v
          | 22 => v = .slice none 0 0
          | 23 => FGiv w2.heap.size O X' Y' fr fd fs wv v
          | 24 => FAgg w2.heap.size O X' Y' fr fd fs wv v
          | 25 => v = .bool O
          | 26 => True
          | 27 => v = .bool O
          | _ => False) (fun listed aa ww => StC w2 (w.heap.size + 1) 5 26 (FFin (w.heap.size + 1) w2.heap.size O X' Y' fr fd fs) listed ww ∧ AP [] aa ww) (fun wa wb => Turn wa wb (fun b => b = (w.heap.size + 1))) ?hmono (by kernel_rfl) (by kernel_rfl) ⟨StC.start LR2.out rfl, AP.start (by rfl)⟩ ?hop ?hend
        case hmono =>
          intro i wa wb v hR hV
          rcases i with _ | _ | _ | _ | _ | _ | _ | _ | _ | _ | _ | _ | _ | _ | _ | _ | _ | _ | _ | _ | _ | _ | _ | _ | _ | _ | _ | _ | i
          · exact hV
          · exact hV
          · exact hV
          · exact hV
          · exact hV
          · exact hV
          · exact hV
          · exact hV
          · exact hV
          · exact hV.turn hR (by omega)
          · exact hV.turn hR (by omega)
          · exact hV
          · exact hV
          · exact hV
          · exact hV
          · exact hV
          · exact hV
          · exact hV
          · exact hV
          · exact hV
          · exact hV.turn hR (by omega)
          · exact hV.turn hR (by omega)
          · exact hV
          · exact hV.turn hR (by omega)
          · exact hV.turn hR (by omega)
          · exact hV
          · exact hV
          · exact hV
          · exact hV
        case hop =>
          intro q o hq listed act w3 hI hCA hnot hcl hall
          obtain ⟨hC, hA⟩ := hCA
          have hlen : listed.size = 28 := hI.len
          obtain ⟨kx0, kx1, kx2, kx3, kx4⟩ := (L2.out.turnS hC.1 (by intro e; omega)).five
          rcases q with _ | _ | _ | _ | _ | _ | _ | _ | _ | _ | _ | _ | _ | _ | _ | _ | _ | _ | _ | _ | _ | _ | _ | _ | _ | _ | _ | _ | q
          · simp at hq; subst hq
            have g2 : act.tmps[2]?.getD undef = .pointer (some ⟨w.heap.size, 0, none⟩) := hI.kept 2 (by kernel_rfl)
            have hA2 := fun v => AP.other (k := 16) hA (by decide) v
            clear hI hall hnot hcl
            refine .inl ⟨wanted_none rfl, ?_⟩
            unfold Oper.wp
            go_simp
            all_goals exact ⟨_, rfl, Turn.refl _ _, rfl, StC.step (k := 0) hC (Below.refl _ _) hFin (by decide) (by rw [hlen]; decide), hA2 _⟩
          · simp at hq; subst hq
            have g2 : act.tmps[2]?.getD undef = .pointer (some ⟨w.heap.size, 0, none⟩) := hI.kept 2 (by kernel_rfl)
            have hA2 := fun v => AP.other (k := 17) hA (by decide) v
            clear hI hall hnot hcl
            refine .inl ⟨wanted_none rfl, ?_⟩
            unfold Oper.wp
            go_simp
            all_goals exact ⟨_, rfl, Turn.refl _ _, rfl, StC.step (k := 1) hC (Below.refl _ _) hFin (by decide) (by rw [hlen]; decide), hA2 _⟩
          · simp at hq; subst hq
            have g17 : act.tmps[17]?.getD undef = .pointer (some ⟨w.heap.size, 0, none⟩) := hI.has 1 17 rfl (hall ⟨1, .data⟩ (by simp) rfl)
            have hA2 := fun v => AP.other (k := 18) hA (by decide) v
            clear hI hall hnot hcl
            refine .inl ⟨wanted_none rfl, ?_⟩
            unfold Oper.wp
            go_simp
            all_goals exact ⟨_, rfl, Turn.refl _ _, rfl, StC.step (k := 2) hC (Below.refl _ _) hFin (by decide) (by rw [hlen]; decide), hA2 _⟩
          · simp at hq; subst hq
            have g1 : act.tmps[1]?.getD undef = .int .i64 k := hI.kept 1 (by kernel_rfl)
            have hA2 := fun v => AP.other (k := 19) hA (by decide) v
            clear hI hall hnot hcl
            refine .inl ⟨wanted_none rfl, ?_⟩
            unfold Oper.wp
            go_simp
            all_goals exact ⟨_, rfl, Turn.refl _ _, rfl, StC.step (k := 3) hC (Below.refl _ _) hFin (by decide) (by rw [hlen]; decide), hA2 _⟩
          · simp at hq; subst hq
            have g18 : act.tmps[18]?.getD undef = .slice (some ⟨bA, oA, none⟩) fx.length cx := hI.has 2 18 rfl (hall ⟨2, .data⟩ (by simp) rfl)
            have g19 : act.tmps[19]?.getD undef = .int .i64 k := hI.has 3 19 rfl (hall ⟨3, .data⟩ (by simp) rfl)
            have hA2 := fun v => AP.other (k := 20) hA (by decide) v
            clear hI hall hnot hcl
            refine .inl ⟨wanted_none rfl, ?_⟩
            unfold Oper.wp
            go_simp
            exact ⟨_, rfl, Turn.refl _ _, rfl, StC.step (k := 4) hC (Below.refl _ _) hFin (by decide) (by rw [hlen]; decide), hA2 _⟩
          · simp at hq; subst hq
            have g2 : act.tmps[2]?.getD undef = .pointer (some ⟨w.heap.size, 0, none⟩) := hI.kept 2 (by kernel_rfl)
            have hA2 := fun v => AP.other (k := 21) hA (by decide) v
            clear hI hall hnot hcl
            refine .inl ⟨wanted_none rfl, ?_⟩
            unfold Oper.wp
            go_simp
            all_goals exact ⟨_, rfl, Turn.refl _ _, rfl, StC.step (k := 5) hC (Below.refl _ _) hFin (by decide) (by rw [hlen]; decide), hA2 _⟩
          · simp at hq; subst hq
            have g21 : act.tmps[21]?.getD undef = .pointer (some ⟨w.heap.size, 0, none⟩) := hI.has 5 21 rfl (hall ⟨5, .data⟩ (by simp) rfl)
            have hA2 := fun v => AP.other (k := 22) hA (by decide) v
            clear hI hall hnot hcl
            refine .inl ⟨wanted_none rfl, ?_⟩
            unfold Oper.wp
            go_simp
            all_goals exact ⟨_, rfl, Turn.refl _ _, rfl, StC.step (k := 6) hC (Below.refl _ _) hFin (by decide) (by rw [hlen]; decide), hA2 _⟩
          · simp at hq; subst hq
            have g1 : act.tmps[1]?.getD undef = .int .i64 k := hI.kept 1 (by kernel_rfl)
            have hA2 := fun v => AP.other (k := 23) hA (by decide) v
            clear hI hall hnot hcl
            refine .inl ⟨wanted_none rfl, ?_⟩
            unfold Oper.wp
            go_simp
            all_goals exact ⟨_, rfl, Turn.refl _ _, rfl, StC.step (k := 7) hC (Below.refl _ _) hFin (by decide) (by rw [hlen]; decide), hA2 _⟩
          · simp at hq; subst hq
            have g23 : act.tmps[23]?.getD undef = .int .i64 k := hI.has 7 23 rfl (hall ⟨7, .data⟩ (by simp) rfl)
            have hA2 := fun v => AP.other (k := 24) hA (by decide) v
            clear hI hall hnot hcl
            refine .inl ⟨wanted_none rfl, ?_⟩
            unfold Oper.wp
            go_simp
            all_goals exact ⟨_, rfl, Turn.refl _ _, rfl, StC.step (k := 8) hC (Below.refl _ _) hFin (by decide) (by rw [hlen]; decide), hA2 _⟩
          · simp at hq; subst hq
            have g22 : act.tmps[22]?.getD undef = .slice (some ⟨bA, oA, none⟩) fx.length cx := hI.has 6 22 rfl (hall ⟨6, .data⟩ (by simp) rfl)
            have g24 : act.tmps[24]?.getD undef = .int .i64 (k + 1 : Nat) := hI.has 8 24 rfl (hall ⟨8, .data⟩ (by simp) rfl)
            have hA2 := fun v => AP.other (k := 25) hA (by decide) v
            clear hI hall hnot hcl
            refine .inl ⟨wanted_none rfl, ?_⟩
            unfold Oper.wp
            go_simp
            by_cases he : cx = k + 1
            · go_simp
              exact ⟨_, rfl, Turn.refl _ _, ⟨_, _, _, rfl, Fl.dropE (by omega), HBB.out.1⟩, StC.step (k := 9) hC (Below.refl _ _) hFin (by decide) (by rw [hlen]; decide), hA2 _⟩
            · go_simp
              exact ⟨_, rfl, Turn.refl _ _, ⟨_, _, _, rfl, (HP.out.1.turnF B2.out hC.1 (by omega)).dropP, HBB.out.1⟩, StC.step (k := 9) hC (Below.refl _ _) hFin (by decide) (by rw [hlen]; decide), hA2 _⟩
          · simp at hq; subst hq
            have g20 : act.tmps[20]?.getD undef = .slice (some ⟨bA, oA, none⟩) k cx := hI.has 4 20 rfl (hall ⟨4, .data⟩ (by simp) rfl)
            have G25 := hI.has 9 25 rfl (hall ⟨9, .data⟩ (by simp) rfl)
            have hA2 := fun v => AP.other (k := 26) hA (by decide) v
            clear hI hall hnot hcl
            refine .inl ⟨wanted_none rfl, ?_⟩
            unfold Oper.wp
            go_simp
            obtain ⟨b2, o2, c2, eg, hf, hlo⟩ := G25
            rw [eg]
            go_simp
            exact ⟨_, rfl, Turn.of_below ((Below.refl _ _).alloc (Nat.le_refl _) _) _, ⟨b2, o2, c2, ⟨_, rfl, blkL_at _ #[_, _] _ rfl, hC.1.1⟩, hf.below ((Below.refl _ _).alloc (Nat.le_refl _) _), hlo⟩, StC.step (k := 10) hC ((Below.refl _ _).alloc (Nat.le_refl _) _) hFin (by decide) (by rw [hlen]; decide), (hA2 _).grow (by simp)⟩
          · simp at hq; subst hq
            have G26 := hI.has 10 26 rfl (hall ⟨10, .data⟩ (by simp) rfl)
            have hA2 := fun v => AP.other (k := 27) hA (by decide) v
            clear hI hall hnot hcl
            refine .inl ⟨wanted_none rfl, ?_⟩
            unfold Oper.wp
            go_simp
            obtain ⟨b2, o2, c2, ⟨Bs, eg, hk, hlo2⟩, hf, hlo⟩ := G26
            rw [eg]
            go_simp
            refine (lib_Concat0 _ _ _ _ _ _ _ _ Bs w3 hk HK0.out HZX.out).mono ?_
            rintro e w4 ⟨rfl, b4⟩
            exact ⟨_, rfl, Turn.of_below b4 _, rfl, StC.step (k := 11) hC b4 hFin (by decide) (by rw [hlen]; decide), (hA2 _).grow b4.size⟩
          · simp at hq; subst hq
            have g2 : act.tmps[2]?.getD undef = .pointer (some ⟨w.heap.size, 0, none⟩) := hI.kept 2 (by kernel_rfl)
            have hA2 := fun v => AP.other (k := 28) hA (by decide) v
            clear hI hall hnot hcl
            refine .inl ⟨wanted_none rfl, ?_⟩
            unfold Oper.wp
            go_simp
            all_goals exact ⟨_, rfl, Turn.refl _ _, rfl, StC.step (k := 12) hC (Below.refl _ _) hFin (by decide) (by rw [hlen]; decide), hA2 _⟩
          · simp at hq; subst hq
            have g28 : act.tmps[28]?.getD undef = .pointer (some ⟨w.heap.size, 1, none⟩) := hI.has 12 28 rfl (hall ⟨12, .data⟩ (by simp) rfl)
            have hA2 := fun v => AP.other (k := 29) hA (by decide) v
            clear hI hall hnot hcl
            refine .inl ⟨wanted_none rfl, ?_⟩
            unfold Oper.wp
            go_simp
            all_goals exact ⟨_, rfl, Turn.refl _ _, rfl, StC.step (k := 13) hC (Below.refl _ _) hFin (by decide) (by rw [hlen]; decide), hA2 _⟩
          · simp at hq; subst hq
            have g1 : act.tmps[1]?.getD undef = .int .i64 k := hI.kept 1 (by kernel_rfl)
            have hA2 := fun v => AP.other (k := 30) hA (by decide) v
            clear hI hall hnot hcl
            refine .inl ⟨wanted_none rfl, ?_⟩
            unfold Oper.wp
            go_simp
            all_goals exact ⟨_, rfl, Turn.refl _ _, rfl, StC.step (k := 14) hC (Below.refl _ _) hFin (by decide) (by rw [hlen]; decide), hA2 _⟩
          · simp at hq; subst hq
            have g29 : act.tmps[29]?.getD undef = .slice (some ⟨bL, oL, none⟩) fy.length cy := hI.has 13 29 rfl (hall ⟨13, .data⟩ (by simp) rfl)
            have g30 : act.tmps[30]?.getD undef = .int .i64 k := hI.has 14 30 rfl (hall ⟨14, .data⟩ (by simp) rfl)
            have hA2 := fun v => AP.other (k := 31) hA (by decide) v
            clear hI hall hnot hcl
            refine .inl ⟨wanted_none rfl, ?_⟩
            unfold Oper.wp
            go_simp
            exact ⟨_, rfl, Turn.refl _ _, rfl, StC.step (k := 15) hC (Below.refl _ _) hFin (by decide) (by rw [hlen]; decide), hA2 _⟩
          · simp at hq; subst hq
            have g2 : act.tmps[2]?.getD undef = .pointer (some ⟨w.heap.size, 0, none⟩) := hI.kept 2 (by kernel_rfl)
            have hA2 := fun v => AP.other (k := 32) hA (by decide) v
            clear hI hall hnot hcl
            refine .inl ⟨wanted_none rfl, ?_⟩
            unfold Oper.wp
            go_simp
            all_goals exact ⟨_, rfl, Turn.refl _ _, rfl, StC.step (k := 16) hC (Below.refl _ _) hFin (by decide) (by rw [hlen]; decide), hA2 _⟩
          · simp at hq; subst hq
            have g32 : act.tmps[32]?.getD undef = .pointer (some ⟨w.heap.size, 1, none⟩) := hI.has 16 32 rfl (hall ⟨16, .data⟩ (by simp) rfl)
            have hA2 := fun v => AP.other (k := 33) hA (by decide) v
            clear hI hall hnot hcl
            refine .inl ⟨wanted_none rfl, ?_⟩
            unfold Oper.wp
            go_simp
            all_goals exact ⟨_, rfl, Turn.refl _ _, rfl, StC.step (k := 17) hC (Below.refl _ _) hFin (by decide) (by rw [hlen]; decide), hA2 _⟩
          · simp at hq; subst hq
            have g1 : act.tmps[1]?.getD undef = .int .i64 k := hI.kept 1 (by kernel_rfl)
            have hA2 := fun v => AP.other (k := 34) hA (by decide) v
            clear hI hall hnot hcl
            refine .inl ⟨wanted_none rfl, ?_⟩
            unfold Oper.wp
            go_simp
            all_goals exact ⟨_, rfl, Turn.refl _ _, rfl, StC.step (k := 18) hC (Below.refl _ _) hFin (by decide) (by rw [hlen]; decide), hA2 _⟩
          · simp at hq; subst hq
            have g34 : act.tmps[34]?.getD undef = .int .i64 k := hI.has 18 34 rfl (hall ⟨18, .data⟩ (by simp) rfl)
            have hA2 := fun v => AP.other (k := 35) hA (by decide) v
            clear hI hall hnot hcl
            refine .inl ⟨wanted_none rfl, ?_⟩
            unfold Oper.wp
            go_simp
            all_goals exact ⟨_, rfl, Turn.refl _ _, rfl, StC.step (k := 19) hC (Below.refl _ _) hFin (by decide) (by rw [hlen]; decide), hA2 _⟩
          · simp at hq; subst hq
            have g33 : act.tmps[33]?.getD undef = .slice (some ⟨bL, oL, none⟩) fy.length cy := hI.has 17 33 rfl (hall ⟨17, .data⟩ (by simp) rfl)
            have g35 : act.tmps[35]?.getD undef = .int .i64 (k + 1 : Nat) := hI.has 19 35 rfl (hall ⟨19, .data⟩ (by simp) rfl)
            have hA2 := fun v => AP.other (k := 36) hA (by decide) v
            clear hI hall hnot hcl
            refine .inl ⟨wanted_none rfl, ?_⟩
            unfold Oper.wp
            go_simp
            by_cases he : cy = k + 1
            · go_simp
              exact ⟨_, rfl, Turn.refl _ _, ⟨_, _, _, rfl, Fl.dropE (by omega), HBB.out.2⟩, StC.step (k := 20) hC (Below.refl _ _) hFin (by decide) (by rw [hlen]; decide), hA2 _⟩
            · go_simp
              exact ⟨_, rfl, Turn.refl _ _, ⟨_, _, _, rfl, (HP.out.2.turnF B2.out hC.1 (by omega)).dropP, HBB.out.2⟩, StC.step (k := 20) hC (Below.refl _ _) hFin (by decide) (by rw [hlen]; decide), hA2 _⟩
          · simp at hq; subst hq
            have g31 : act.tmps[31]?.getD undef = .slice (some ⟨bL, oL, none⟩) k cy := hI.has 15 31 rfl (hall ⟨15, .data⟩ (by simp) rfl)
            have G36 := hI.has 20 36 rfl (hall ⟨20, .data⟩ (by simp) rfl)
            have hA2 := fun v => AP.other (k := 37) hA (by decide) v
            clear hI hall hnot hcl
            refine .inl ⟨wanted_none rfl, ?_⟩
            unfold Oper.wp
            go_simp
            obtain ⟨b2, o2, c2, eg, hf, hlo⟩ := G36
            rw [eg]
            go_simp
            exact ⟨_, rfl, Turn.of_below ((Below.refl _ _).alloc (Nat.le_refl _) _) _, ⟨b2, o2, c2, ⟨_, rfl, blkL_at _ #[_, _] _ rfl, hC.1.1⟩, hf.below ((Below.refl _ _).alloc (Nat.le_refl _) _), hlo⟩, StC.step (k := 21) hC ((Below.refl _ _).alloc (Nat.le_refl _) _) hFin (by decide) (by rw [hlen]; decide), (hA2 _).grow (by simp)⟩
          · simp at hq; subst hq
            have G37 := hI.has 21 37 rfl (hall ⟨21, .data⟩ (by simp) rfl)
            have hA2 := fun v => AP.other (k := 38) hA (by decide) v
            clear hI hall hnot hcl
            refine .inl ⟨wanted_none rfl, ?_⟩
            unfold Oper.wp
            go_simp
            obtain ⟨b2, o2, c2, ⟨Bs, eg, hk, hlo2⟩, hf, hlo⟩ := G37
            rw [eg]
            go_simp
            refine (lib_Concat0 _ _ _ _ _ _ _ _ Bs w3 hk HK0.out HZY.out).mono ?_
            rintro e w4 ⟨rfl, b4⟩
            exact ⟨_, rfl, Turn.of_below b4 _, rfl, StC.step (k := 22) hC b4 hFin (by decide) (by rw [hlen]; decide), (hA2 _).grow b4.size⟩
          · simp at hq; subst hq
            have g16 : act.tmps[16]?.getD undef = .agg #[.slice (some ⟨bA, oA, none⟩) fx.length cx, .slice (some ⟨bL, oL, none⟩) fy.length cy, .float .f32 fr, .float .f32 fd, .float .f32 fs] := hI.has 0 16 rfl (hall ⟨0, .data⟩ (by simp) rfl)
            have g27 : act.tmps[27]?.getD undef = .slice none 0 0 := hI.has 11 27 rfl (hall ⟨11, .data⟩ (by simp) rfl)
            have g38 : act.tmps[38]?.getD undef = .slice none 0 0 := hI.has 22 38 rfl (hall ⟨22, .data⟩ (by simp) rfl)
            have hA2 := fun v => AP.other (k := 39) hA (by decide) v
            clear hI hall hnot hcl
            refine .inl ⟨wanted_none rfl, ?_⟩
            unfold Oper.wp
            go_simp
            refine (i_withPl0 _ _ _ _ _ _ w2.heap.size fr fd fs X' Y' O w3 HO0.out).mono ?_
            rintro e w4 ⟨v4, rfl, ho, b4⟩
            exact ⟨_, rfl, Turn.of_below b4 _, ho, StC.step (k := 23) hC b4 hFin (by decide) (by rw [hlen]; decide), (hA2 _).grow b4.size⟩
          · simp at hq; subst hq
            have G39 := hI.has 23 39 rfl (hall ⟨23, .data⟩ (by simp) rfl)
            have hA2 := fun v => AP.other (k := 40) hA (by decide) v
            clear hI hall hnot hcl
            refine .inl ⟨wanted_none rfl, ?_⟩
            unfold Oper.wp
            go_simp
            obtain ⟨Ra, Rb, da, db, ka, kb, eg, hg⟩ := G39
            rw [eg]
            go_simp
            exact ⟨_, rfl, Turn.refl _ _, ⟨Ra, Rb, da, db, ka, kb, rfl, hg⟩, StC.step (k := 24) hC (Below.refl _ _) hFin (by decide) (by rw [hlen]; decide), hA2 _⟩
          · simp at hq; subst hq
            have G39 := hI.has 23 39 rfl (hall ⟨23, .data⟩ (by simp) rfl)
            have hA2 := fun v => AP.other (k := 41) hA (by decide) v
            clear hI hall hnot hcl
            refine .inl ⟨wanted_none rfl, ?_⟩
            unfold Oper.wp
            go_simp
            obtain ⟨Ra, Rb, da, db, ka, kb, eg, hg⟩ := G39
            rw [eg]
            go_simp
            exact ⟨_, rfl, Turn.refl _ _, rfl, StC.step (k := 25) hC (Below.refl _ _) hFin (by decide) (by rw [hlen]; decide), hA2 _⟩
          · simp at hq; subst hq
            have g4 : act.tmps[4]?.getD undef = .pointer (some ⟨(w.heap.size + 1), 0, none⟩) := hI.kept 4 (by kernel_rfl)
            have G40 := hI.has 24 40 rfl (hall ⟨24, .data⟩ (by simp) rfl)
            have hA2 := fun v => AP.skip hA v
            clear hI hall hnot hcl
            refine .inl ⟨wanted_none rfl, ?_⟩
            unfold Oper.wp
            go_simp
            obtain ⟨Ra, Rb, da, db, ka, kb, eg, hg⟩ := G40
            rw [eg]
            obtain ⟨vs, hvs, hvl⟩ := hC.2.1
            match vs, hvs, hvl with
            | [a0, a1, a2, a3, a4], hvs, _ =>
            have p0 := (hvs.2 0 _ rfl).1
            have q0 := (hvs.2 0 _ rfl).2
            have p1 := (hvs.2 1 _ rfl).1
            have q1 := (hvs.2 1 _ rfl).2
            have p2 := (hvs.2 2 _ rfl).1
            have q2 := (hvs.2 2 _ rfl).2
            have p3 := (hvs.2 3 _ rfl).1
            have q3 := (hvs.2 3 _ rfl).2
            have p4 := (hvs.2 4 _ rfl).1
            have q4 := (hvs.2 4 _ rfl).2
            go_simp
            have hf := (((((hvs.set (i := 0) (by simp) (.slice Ra (gL O X').length da)).set (i := 1) (by simp) (.slice Rb (gL O Y').length db)).set (i := 2) (by simp) (.float .f32 (gF O fr))).set (i := 3) (by simp) (.float .f32 (gF O fd))).set (i := 4) (by simp) (.float .f32 (gF O fs)))
            have ht := (((((Turn.set w3 (B := (w.heap.size + 1)) ⟨(w.heap.size + 1), 0, none⟩ rfl (.slice Ra (gL O X').length da)).trans (Turn.set _ (B := (w.heap.size + 1)) ⟨(w.heap.size + 1), 1, none⟩ rfl (.slice Rb (gL O Y').length db))).trans (Turn.set _ (B := (w.heap.size + 1)) ⟨(w.heap.size + 1), 2, none⟩ rfl (.float .f32 (gF O fr)))).trans (Turn.set _ (B := (w.heap.size + 1)) ⟨(w.heap.size + 1), 3, none⟩ rfl (.float .f32 (gF O fd)))).trans (Turn.set _ (B := (w.heap.size + 1)) ⟨(w.heap.size + 1), 4, none⟩ rfl (.float .f32 (gF O fs))))
            have hn := (((((hg.setB (p := ⟨(w.heap.size + 1), 0, none⟩) (by show (w.heap.size + 1) < _; omega) (.slice Ra (gL O X').length da)).setB (p := ⟨(w.heap.size + 1), 1, none⟩) (by show (w.heap.size + 1) < _; omega) (.slice Rb (gL O Y').length db)).setB (p := ⟨(w.heap.size + 1), 2, none⟩) (by show (w.heap.size + 1) < _; omega) (.float .f32 (gF O fr))).setB (p := ⟨(w.heap.size + 1), 3, none⟩) (by show (w.heap.size + 1) < _; omega) (.float .f32 (gF O fd))).setB (p := ⟨(w.heap.size + 1), 4, none⟩) (by show (w.heap.size + 1) < _; omega) (.float .f32 (gF O fs)))
            have hst := StC.store (st := 26) hC ht hf rfl ⟨Ra, Rb, da, db, ka, kb, hf, hn⟩
            have hap := (hA2 undef).grow ht.1
            first | exact ⟨ht, trivial, hst, hap⟩ | exact ⟨ht, hst, hap⟩
          · simp at hq; subst hq
            have g41 : act.tmps[41]?.getD undef = .bool O := hI.has 25 41 rfl (hall ⟨25, .data⟩ (by simp) rfl)
            have hA2 := fun v => AP.other (k := 5) hA (by decide) v
            clear hI hall hnot hcl
            refine .inl ⟨wanted_none rfl, ?_⟩
            unfold Oper.wp
            go_simp
            all_goals exact ⟨_, rfl, Turn.refl _ _, rfl, StC.step (k := 27) hC (Below.refl _ _) hFin (by decide) (by rw [hlen]; decide), hA2 _⟩
          · simp at hq
        case hend =>
          intro listed act w3 hI hCA hall
          obtain ⟨hC, hA⟩ := hCA
          have hlen : listed.size = 28 := hI.len
          obtain ⟨kx0, kx1, kx2, kx3, kx4⟩ := (L2.out.turnS hC.1 (by intro e; omega)).five
          obtain ⟨Ra, Rb, da, db, ka, kb, hf, hown⟩ := hC.2.2 (hall 26 (by decide))
          have ht := hC.1
          have g4 : act.tmps[4]?.getD undef = .pointer (some ⟨(w.heap.size + 1), 0, none⟩) := hI.kept 4 (by kernel_rfl)
          have g5 : act.tmps[5]?.getD undef = .bool O := hI.has 27 5 rfl (hall 27 (by decide))
          have hd := hI.defers
          clear hI hall hFin hC hA
          have c0 := (hf.2 0 _ rfl).1
          have c1 := (hf.2 1 _ rfl).1
          have c2 := (hf.2 2 _ rfl).1
          have c3 := (hf.2 3 _ rfl).1
          have c4 := (hf.2 4 _ rfl).1
          go_wp2
          refine bodyPost_ret (v := .tuple #[.agg #[.slice Ra (gL O X').length da, .slice Rb (gL O Y').length db, .float .f32 (gF O fr), .float .f32 (gF O fd), .float .f32 (gF O fs)], .bool O]) (by simp [results, Try.results59, g4, g5, c0, c1, c2, c3, c4, go_sem]) (by first | rfl | exact hd) ?_
          have hbw := ht.2.2.2 w B2.out (fun b hb => by have hb : b = (w.heap.size + 1) := hb; omega)
          first | exact ⟨Ra, Rb, da, db, ka, kb, rfl, hown.baseB B2.out.size, hbw⟩ | exact ⟨Ra, Rb, ⟨da, db, rfl⟩, ⟨ka, kb, hown.baseB B2.out.size⟩, hbw⟩
end Go.Proofs.Ytiiiigldpbomkaa
