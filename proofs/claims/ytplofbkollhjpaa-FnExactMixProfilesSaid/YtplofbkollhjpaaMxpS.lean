/- MixProfiles: the specification's side. No statement is proved here. -/
import Derived.Test.YtplofbkollhjpaaPut
import Derived.Test.YtplofbkollhjpaaInv6
import Derived.Test.YtplofbkollhjpaaInv3
namespace Go.Proofs.Ytplofbkollhjpaa
open Go Go.RowKit
def mxV (x y s : Nat) : Nat := fop .add .f32 (canon .f32 x) (fop .mul .f32 (canon .f32 s) (fop .sub .f32 (canon .f32 y) (canon .f32 x)))
def mxL (xs ys : List Nat) (s : Nat) : List Nat := (List.range xs.length).map fun k => mxV (xs.getD k 0) (ys.getD k 0) s
def eqv (x y : Nat) : Bool := FloatKind.f32.format.order x y == some .eq
def eqvK (xs ys : List Nat) : Nat → Bool
  | 0 => true
  | k + 1 => eqvK xs ys k && eqv (xs.getD k 0) (ys.getD k 0)
def mxC (a l d a' l' d' : List Nat) (s : Nat) : Bool := validP a l d && (validP a' l' d' && (decide (a.length = a'.length) && fin .f32 s))
def mxO (a l d a' l' d' : List Nat) (s : Nat) : Bool := mxC a l d a' l' d' s && (eqvK a a' a.length && validP a (mxL l l' s) (mxL d d' s))
theorem mxL_length (xs ys : List Nat) (s : Nat) : (mxL xs ys s).length = xs.length := by simp [mxL]
theorem mxL_at {xs ys : List Nat} {s k : Nat} (h : k < xs.length) : (mxL xs ys s).getD k 0 = mxV (xs.getD k 0) (ys.getD k 0) s := by simp [mxL, List.getD, h]
theorem eqvK_no {xs ys : List Nat} {k n : Nat} (h : eqvK xs ys k = false) (hk : k ≤ n) : eqvK xs ys n = false := by
  induction n with
  | zero => rw [show k = 0 by omega] at h; exact h
  | succ n ih =>
    by_cases e : k = n + 1
    · rw [← e]; exact h
    · simp only [eqvK, ih (by omega), Bool.false_and]
theorem mx_few (a l d a' l' d' : List Nat) (s : Nat) : Few (gLp (mxO a l d a' l' d' s) a) (gLp (mxO a l d a' l' d' s) (mxL l l' s)) (gLp (mxO a l d a' l' d' s) (mxL d d' s)) :=
  gL_few (fun h => by unfold mxO at h; rw [Bool.and_eq_true, Bool.and_eq_true] at h; exact sized_of h.2.2)
theorem mxO_c {a l d a' l' d' : List Nat} {s : Nat} (h : mxC a l d a' l' d' s = false) : mxO a l d a' l' d' s = false := by unfold mxO; rw [h]; rfl
theorem mxO_e {a l d a' l' d' : List Nat} {s k : Nat} (h : eqvK a a' k = false) (hk : k ≤ a.length) : mxO a l d a' l' d' s = false := by unfold mxO; rw [eqvK_no h hk]; simp
theorem mxO_y {a l d a' l' d' : List Nat} {s : Nat} (h : mxC a l d a' l' d' s = true) (h2 : eqvK a a' a.length = true) : mxO a l d a' l' d' s = validP a (mxL l l' s) (mxL d d' s) := by unfold mxO; rw [h, h2]; rfl
theorem mxC_1 {a l d a' l' d' : List Nat} {s : Nat} (h : validP a l d = false) : mxC a l d a' l' d' s = false := by unfold mxC; rw [h]; rfl
theorem mxC_2 {a l d a' l' d' : List Nat} {s : Nat} (h : validP a' l' d' = false) : mxC a l d a' l' d' s = false := by unfold mxC; rw [h]; simp
theorem mxC_3 {a l d a' l' d' : List Nat} {s : Nat} (h : a.length ≠ a'.length) : mxC a l d a' l' d' s = false := by unfold mxC; rw [decide_eq_false h]; simp
theorem mxC_4 {a l d a' l' d' : List Nat} {s : Nat} (h : fin .f32 s = false) : mxC a l d a' l' d' s = false := by unfold mxC; rw [h]; simp
theorem mxC_y {a l d a' l' d' : List Nat} {s : Nat} (h1 : validP a l d = true) (h2 : validP a' l' d' = true) (h3 : a.length = a'.length) (h4 : fin .f32 s = true) : mxC a l d a' l' d' s = true := by unfold mxC; rw [h1, h2, decide_eq_true h3, h4]; rfl
set_option maxHeartbeats 16000000 in
set_option maxRecDepth 100000 in
theorem s_MixProfiles (A L D : Option Addr) (ca cl cd : Nat) (a l d : List Nat) (A' L' D' : Option Addr) (ca' cl' cd' : Nat) (a' l' d' : List Nat) (s : Nat) (w : World) (h : Pf w A L D a l d) (h' : Pf w A' L' D' a' l' d') (hn : Few a l d) (hn' : Few a' l' d') :
    Calls Try.prog 30 #[.agg #[.slice A a.length ca, .slice L l.length cl, .slice D d.length cd], .agg #[.slice A' a'.length ca', .slice L' l'.length cl', .slice D' d'.length cd'], .float .f32 s] w fun e w' => ∃ (R1 R2 R3 : Option Addr) (c1 c2 c3 g1 g2 g3 : Nat), e = .returned (.tuple #[.agg #[.slice R1 (gLp (mxO a l d a' l' d' s) a).length c1, .slice R2 (gLp (mxO a l d a' l' d' s) (mxL l l' s)).length c2, .slice R3 (gLp (mxO a l d a' l' d' s) (mxL d d' s)).length c3], .bool (mxO a l d a' l' d' s)]) ∧ OwnQ w' w.heap.size R1 R2 R3 g1 g2 g3 (gLp (mxO a l d a' l' d' s) a) (gLp (mxO a l d a' l' d' s) (mxL l l' s)) (gLp (mxO a l d a' l' d' s) (mxL d d' s)) ∧ Below w.heap.size w w' := by
  have HP := Lib.hid h; clear h
  have HP' := Lib.hid h'; clear h'
  have HOC : Hid (mxC a l d a' l' d' s = false → mxO a l d a' l' d' s = false) := Lib.hid mxO_c
  have HOE : Hid (∀ k, eqvK a a' k = false → k ≤ a.length → mxO a l d a' l' d' s = false) := Lib.hid (fun k h hk => mxO_e h hk)
  have HOY : Hid (mxC a l d a' l' d' s = true → eqvK a a' a.length = true → mxO a l d a' l' d' s = validP a (mxL l l' s) (mxL d d' s)) := Lib.hid mxO_y
  have HYA : Hid ((∀ k, k < l.length → (mxL l l' s).getD k 0 = mxV (l.getD k 0) (l'.getD k 0) s) ∧ (mxL l l' s).length = l.length) := Lib.hid ⟨fun k hk => mxL_at hk, mxL_length ..⟩
  have HZA : Hid ((∀ k, k < d.length → (mxL d d' s).getD k 0 = mxV (d.getD k 0) (d'.getD k 0) s) ∧ (mxL d d' s).length = d.length) := Lib.hid ⟨fun k hk => mxL_at hk, mxL_length ..⟩
  generalize mxO a l d a' l' d' s = O at HOC HOE HOY ⊢
  generalize (mxL l l' s) = Y at HYA HOY ⊢
  generalize (mxL d d' s) = Z at HZA HOY ⊢
  obtain ⟨w0, hw0⟩ : ∃ x, x = ((w.alloc (.cells #[.slice A a.length ca, .slice L l.length cl, .slice D d.length cd] 24)).alloc (.cells #[.slice A' a'.length ca', .slice L' l'.length cl', .slice D' d'.length cd'] 24)).alloc (.cells #[.slice none 0 0, .slice none 0 0, .slice none 0 0] 24) := ⟨_, rfl⟩
  have K0 : Hid (Blk3 w0 w.heap.size (.slice A a.length ca) (.slice L l.length cl) (.slice D d.length cd)) := Lib.hid (by rw [hw0]; exact ((blk3_new w _ _ _ _).alloc _).alloc _)
  have K0' : Hid (Blk3 w0 (w.heap.size + 1) (.slice A' a'.length ca') (.slice L' l'.length cl') (.slice D' d'.length cd')) := Lib.hid (by rw [hw0]; exact (blk3_at (w.alloc _) _ _ _ _ (by simp)).alloc _)
  have KR : Hid (BlkL w0 (w.heap.size + 2) [.slice none 0 0, .slice none 0 0, .slice none 0 0]) := Lib.hid (by rw [hw0]; exact blkL_at ((w.alloc _).alloc _) #[.slice none 0 0, .slice none 0 0, .slice none 0 0] _ (by simp))
  have B0 : Hid (Below w.heap.size w w0) := Lib.hid (by rw [hw0]; exact (((Below.refl _ _).alloc (Nat.le_refl _) _).alloc (by simp) _).alloc (by simp; omega) _)
  have Z0 : Hid (w0.heap.size = w.heap.size + 3) := Lib.hid (by rw [hw0]; simp)
  obtain ⟨-, ⟨k0, k1, k2⟩, -, -, -⟩ := K0.out
  obtain ⟨-, ⟨k0', k1', k2'⟩, -, -, -⟩ := K0'.out
  go_enter Try.func30, Try.ntmps30
  go_wp2_with fail
  rw [← hw0]
  clear hw0
  have Lw0 := K0
  have Mw0 := K0'
  have Rw0 := KR
  have Bw0 := B0
  have Zw0 : Hid (w.heap.size + 3 ≤ w0.heap.size) := Lib.hid (by have := Z0.out; omega)
  refine (s_l02Is A L D ca cl cd a l d w.heap.size _ (HP.out.below B0.out) K0.out hn).mono ?_
  rintro e wa ⟨n1, rfl, hw⟩
  have b1 : Below w0.heap.size w0 wa := by rw [hw]; exact below_draws (Below.refl _ _) _
  clear hw k0 k1 k2 k0' k1' k2'
  have Lwa := Lib.hid (Lw0.out.below b1)
  have Mwa := Lib.hid (Mw0.out.below b1)
  have Rwa := Lib.hid (Rw0.out.below b1)
  have Bwa : Hid (Below w.heap.size w wa) := Lib.hid (below_of Bw0.out Bw0.out.size b1)
  have Zwa : Hid (w.heap.size + 3 ≤ wa.heap.size) := Lib.hid (by have := b1.size; have := Zw0.out; omega)
  clear b1
  obtain ⟨-, ⟨k0, k1, k2⟩, -, -, -⟩ := Lwa.out
  obtain ⟨-, ⟨k0', k1', k2'⟩, -, -, -⟩ := Mwa.out
  clear K0 K0' KR
  cases v0 : validP a l d
  · have HN := Lib.hid (HOC.out (mxC_1 v0))
    clear v0
    have p0 := (Rwa.out.2 0 _ rfl).1
    have q0 := (Rwa.out.2 0 _ rfl).2
    have p1 := (Rwa.out.2 1 _ rfl).1
    have q1 := (Rwa.out.2 1 _ rfl).2
    have p2 := (Rwa.out.2 2 _ rfl).1
    have q2 := (Rwa.out.2 2 _ rfl).2
    go_wp2
    refine bodyPost_ret (v := .tuple #[.agg #[.slice none 0 0, .slice none 0 0, .slice none 0 0], .bool false]) ?_ rfl ?_
    · simp [results, Try.results30, go_sem, p0, p1, p2]
    · rw [HN.out]
      exact ⟨none, none, none, 0, 0, 0, 0, 1, 2, rfl, OwnQ.none _ _, (((Bwa.out).setCell (p := ⟨w.heap.size + 2, 0, none⟩) (by show w.heap.size ≤ w.heap.size + 2; omega) _).setCell (p := ⟨w.heap.size + 2, 1, none⟩) (by show w.heap.size ≤ w.heap.size + 2; omega) _).setCell (p := ⟨w.heap.size + 2, 2, none⟩) (by show w.heap.size ≤ w.heap.size + 2; omega) _⟩
  · have V0 := Lib.hid v0
    clear v0
    go_wp2_with fail
    refine (s_l02Is A' L' D' ca' cl' cd' a' l' d' (w.heap.size + 1) _ (HP'.out.below Bwa.out) Mwa.out hn').mono ?_
    rintro e wb ⟨n2, rfl, hw⟩
    have b1 : Below wa.heap.size wa wb := by rw [hw]; exact below_draws (Below.refl _ _) _
    clear hw k0 k1 k2 k0' k1' k2'
    have Lwb := Lib.hid (Lwa.out.below b1)
    have Mwb := Lib.hid (Mwa.out.below b1)
    have Rwb := Lib.hid (Rwa.out.below b1)
    have Bwb : Hid (Below w.heap.size w wb) := Lib.hid (below_of Bwa.out Bwa.out.size b1)
    have Zwb : Hid (w.heap.size + 3 ≤ wb.heap.size) := Lib.hid (by have := b1.size; have := Zwa.out; omega)
    clear b1
    obtain ⟨-, ⟨k0, k1, k2⟩, -, -, -⟩ := Lwb.out
    obtain ⟨-, ⟨k0', k1', k2'⟩, -, -, -⟩ := Mwb.out
    cases v1 : validP a' l' d'
    · have HN := Lib.hid (HOC.out (mxC_2 v1))
      clear v1
      have p0 := (Rwb.out.2 0 _ rfl).1
      have q0 := (Rwb.out.2 0 _ rfl).2
      have p1 := (Rwb.out.2 1 _ rfl).1
      have q1 := (Rwb.out.2 1 _ rfl).2
      have p2 := (Rwb.out.2 2 _ rfl).1
      have q2 := (Rwb.out.2 2 _ rfl).2
      go_wp2
      refine bodyPost_ret (v := .tuple #[.agg #[.slice none 0 0, .slice none 0 0, .slice none 0 0], .bool false]) ?_ rfl ?_
      · simp [results, Try.results30, go_sem, p0, p1, p2]
      · rw [HN.out]
        exact ⟨none, none, none, 0, 0, 0, 0, 1, 2, rfl, OwnQ.none _ _, (((Bwb.out).setCell (p := ⟨w.heap.size + 2, 0, none⟩) (by show w.heap.size ≤ w.heap.size + 2; omega) _).setCell (p := ⟨w.heap.size + 2, 1, none⟩) (by show w.heap.size ≤ w.heap.size + 2; omega) _).setCell (p := ⟨w.heap.size + 2, 2, none⟩) (by show w.heap.size ≤ w.heap.size + 2; omega) _⟩
    · have V1 := Lib.hid v1
      clear v1
      by_cases hl : a.length = a'.length
      case neg =>
        have HN := Lib.hid (HOC.out (mxC_3 hl))
        have hne : ((a.length : Int) != (a'.length : Int)) = true := by rw [bne_iff_ne]; omega
        have p0 := (Rwb.out.2 0 _ rfl).1
        have q0 := (Rwb.out.2 0 _ rfl).2
        have p1 := (Rwb.out.2 1 _ rfl).1
        have q1 := (Rwb.out.2 1 _ rfl).2
        have p2 := (Rwb.out.2 2 _ rfl).1
        have q2 := (Rwb.out.2 2 _ rfl).2
        go_wp2
        refine bodyPost_ret (v := .tuple #[.agg #[.slice none 0 0, .slice none 0 0, .slice none 0 0], .bool false]) ?_ rfl ?_
        · simp [results, Try.results30, go_sem, p0, p1, p2]
        · rw [HN.out]
          exact ⟨none, none, none, 0, 0, 0, 0, 1, 2, rfl, OwnQ.none _ _, (((Bwb.out).setCell (p := ⟨w.heap.size + 2, 0, none⟩) (by show w.heap.size ≤ w.heap.size + 2; omega) _).setCell (p := ⟨w.heap.size + 2, 1, none⟩) (by show w.heap.size ≤ w.heap.size + 2; omega) _).setCell (p := ⟨w.heap.size + 2, 2, none⟩) (by show w.heap.size ≤ w.heap.size + 2; omega) _⟩
      case pos =>
        have HLL := Lib.hid hl
        have hne : ((a.length : Int) != (a'.length : Int)) = false := by simp; omega
        clear hl
        go_wp2_with fail
        refine (s_l01Finite _ _).mono ?_
        rintro e w1 ⟨n3, rfl, hw⟩
        have b1 : Below wb.heap.size wb w1 := by rw [hw]; exact below_draws (Below.refl _ _) _
        clear hw k0 k1 k2 k0' k1' k2'
        have Lw1 := Lib.hid (Lwb.out.below b1)
        have Mw1 := Lib.hid (Mwb.out.below b1)
        have Rw1 := Lib.hid (Rwb.out.below b1)
        have Bw1 : Hid (Below w.heap.size w w1) := Lib.hid (below_of Bwb.out Bwb.out.size b1)
        have Zw1 : Hid (w.heap.size + 3 ≤ w1.heap.size) := Lib.hid (by have := b1.size; have := Zwb.out; omega)
        clear b1
        obtain ⟨-, ⟨k0, k1, k2⟩, -, -, -⟩ := Lw1.out
        obtain ⟨-, ⟨k0', k1', k2'⟩, -, -, -⟩ := Mw1.out
        clear hne
        cases v2 : fin .f32 s
        · have HN := Lib.hid (HOC.out (mxC_4 v2))
          clear v2
          have p0 := (Rw1.out.2 0 _ rfl).1
          have q0 := (Rw1.out.2 0 _ rfl).2
          have p1 := (Rw1.out.2 1 _ rfl).1
          have q1 := (Rw1.out.2 1 _ rfl).2
          have p2 := (Rw1.out.2 2 _ rfl).1
          have q2 := (Rw1.out.2 2 _ rfl).2
          go_wp2
          refine bodyPost_ret (v := .tuple #[.agg #[.slice none 0 0, .slice none 0 0, .slice none 0 0], .bool false]) ?_ rfl ?_
          · simp [results, Try.results30, go_sem, p0, p1, p2]
          · rw [HN.out]
            exact ⟨none, none, none, 0, 0, 0, 0, 1, 2, rfl, OwnQ.none _ _, (((Bw1.out).setCell (p := ⟨w.heap.size + 2, 0, none⟩) (by show w.heap.size ≤ w.heap.size + 2; omega) _).setCell (p := ⟨w.heap.size + 2, 1, none⟩) (by show w.heap.size ≤ w.heap.size + 2; omega) _).setCell (p := ⟨w.heap.size + 2, 2, none⟩) (by show w.heap.size ≤ w.heap.size + 2; omega) _⟩
        · have HC := Lib.hid (mxC_y V0.out V1.out HLL.out v2)
          clear v2
          obtain ⟨s1, s2, s3, s4⟩ := sized_of V0.out
          obtain ⟨t1, t2, t3, t4⟩ := sized_of V1.out
          have HS3 := Lib.hid s3
          have HS4 := Lib.hid s4
          have HT : Hid (a'.length = a.length ∧ l'.length = a.length ∧ d'.length = a.length) := Lib.hid (by have := HLL.out; omega)
          clear k0 k1 k2 k0' k1' k2'
          obtain ⟨ba, oa, rfl, hba, -⟩ := (HP.out.1.below Bw1.out).at_ (k := 0) (by omega)
          obtain ⟨bl, ol, rfl, hbl, -⟩ := (HP.out.2.1.below Bw1.out).at_ (k := 0) (by omega)
          obtain ⟨bd, od, rfl, hbd, -⟩ := (HP.out.2.2.below Bw1.out).at_ (k := 0) (by omega)
          obtain ⟨ba', oa', rfl, hba', -⟩ := (HP'.out.1.below Bw1.out).at_ (k := 0) (by omega)
          obtain ⟨bl', ol', rfl, hbl', -⟩ := (HP'.out.2.1.below Bw1.out).at_ (k := 0) (by omega)
          obtain ⟨bd', od', rfl, hbd', -⟩ := (HP'.out.2.2.below Bw1.out).at_ (k := 0) (by omega)
          clear s3 s4 t1 t2 t3 t4
          have L0 := Lw1
          have L0' := Mw1
          have LR := Rw1
          have B1 := Bw1
          have Z1 := Zw1
          go_wp2_with fail
          refine (s_l02New _).mono ?_
          rintro e w2 ⟨u1, u2, u3, rfl, b2, g2⟩
          have HQ0 := fun t => Lib.hid (g2.pq t)
          clear b2 g2
          go_wp2
          go_loopw [9] (fun i wr => ∃ k : Nat, k ≤ a.length ∧ i = .int .i64 k ∧ Hid (eqvK a a' k = true) ∧ Hid (PQ w1 w2.heap.size (a.take k) (Y.take k) (Z.take k) wr)) (fun i _ => a.length - (intOf i).toNat)
          case atStart => exact ⟨0, Nat.zero_le _, rfl, rfl, HQ0 _⟩
          case round =>
            obtain ⟨k, hk, rfl, HEK, HQ⟩ := hrel
            clear HQ0
            obtain ⟨-, ⟨k0, k1, k2⟩, -, -, -⟩ := L0.out.below HQ.out.below
            obtain ⟨-, ⟨k0', k1', k2'⟩, -, -, -⟩ := L0'.out.below HQ.out.below
            by_cases hlt : k < a.length
            · have hlt2 : k < l.length := by have := HS3.out; omega
              have hlt3 : k < d.length := by have := HS4.out; omega
              have hlt' : k < a'.length := by have := HT.out; omega
              have hlt2' : k < l'.length := by have := HT.out; omega
              have hlt3' : k < d'.length := by have := HT.out; omega
              have HCA : Hid (∀ ww, Below w1.heap.size w1 ww → ww.cell? ⟨ba, oa + k, none⟩ = some (.float .f32 (a.getD k 0))) := Lib.hid (fun ww hb => ((HP.out.1.below B1.out).below hb).same rfl hlt)
              have HCL : Hid (∀ ww, Below w1.heap.size w1 ww → ww.cell? ⟨bl, ol + k, none⟩ = some (.float .f32 (l.getD k 0))) := Lib.hid (fun ww hb => ((HP.out.2.1.below B1.out).below hb).same rfl hlt2)
              have HCD : Hid (∀ ww, Below w1.heap.size w1 ww → ww.cell? ⟨bd, od + k, none⟩ = some (.float .f32 (d.getD k 0))) := Lib.hid (fun ww hb => ((HP.out.2.2.below B1.out).below hb).same rfl hlt3)
              have HCA' : Hid (∀ ww, Below w1.heap.size w1 ww → ww.cell? ⟨ba', oa' + k, none⟩ = some (.float .f32 (a'.getD k 0))) := Lib.hid (fun ww hb => ((HP'.out.1.below B1.out).below hb).same rfl hlt')
              have HCL' : Hid (∀ ww, Below w1.heap.size w1 ww → ww.cell? ⟨bl', ol' + k, none⟩ = some (.float .f32 (l'.getD k 0))) := Lib.hid (fun ww hb => ((HP'.out.2.1.below B1.out).below hb).same rfl hlt2')
              have HCD' : Hid (∀ ww, Below w1.heap.size w1 ww → ww.cell? ⟨bd', od' + k, none⟩ = some (.float .f32 (d'.getD k 0))) := Lib.hid (fun ww hb => ((HP'.out.2.2.below B1.out).below hb).same rfl hlt3')
              have HEV : Hid (eqvK a a' (k + 1) = eqv (a.getD k 0) (a'.getD k 0)) := Lib.hid (by simp only [eqvK, HEK.out, Bool.true_and])
              have HTX : Hid (a.take (k + 1) = a.take k ++ [a.getD k 0]) := Lib.hid (take_snoc (by omega))
              have HTY : Hid (Y.take (k + 1) = Y.take k ++ [Y.getD k 0]) := Lib.hid (take_snoc (by rw [HYA.out.2, HS3.out]; omega))
              have HTZ : Hid (Z.take (k + 1) = Z.take k ++ [Z.getD k 0]) := Lib.hid (take_snoc (by rw [HZA.out.2, HS4.out]; omega))
              have HY1 : Hid (canon .f32 (Y.getD k 0) = mxV (l.getD k 0) (l'.getD k 0) s) := Lib.hid (by rw [HYA.out.1 k hlt2]; exact canon_fop ..)
              have HZ1 : Hid (canon .f32 (Z.getD k 0) = mxV (d.getD k 0) (d'.getD k 0) s) := Lib.hid (by rw [HZA.out.1 k hlt3]; exact canon_fop ..)
              have HLN : Hid ((a.take k).length ≤ 1048576 ∧ (Y.take k).length ≤ 1048576 ∧ (Z.take k).length ≤ 1048576) := Lib.hid (by simp only [List.length_take]; omega)
              generalize a.take k = X0 at HQ HTX HLN
              generalize Y.take k = Y0 at HQ HTY HLN
              generalize Z.take k = Z0 at HQ HTZ HLN
              generalize Y.getD k 0 = y' at HTY HY1
              generalize Z.getD k 0 = z' at HTZ HZ1
              obtain ⟨x', hx'⟩ : ∃ x, x = a.getD k 0 := ⟨_, rfl⟩
              have HX1 : Hid (canon .f32 x' = canon .f32 (a.getD k 0)) := Lib.hid (by rw [hx'])
              rw [← hx'] at HTX
              clear hx'
              unfold mxV at HY1 HZ1
              generalize a.getD k 0 = x at HCA HX1 HEV
              generalize l.getD k 0 = y at HCL HY1
              generalize d.getD k 0 = z at HCD HZ1
              generalize a'.getD k 0 = p at HCA' HEV
              generalize l'.getD k 0 = q1 at HCL' HY1
              generalize d'.getD k 0 = q2 at HCD' HZ1
              have hca := HCA.out wr HQ.out.below
              have hca' := HCA'.out wr HQ.out.below
              have hcl2 := HCL.out wr HQ.out.below
              have hcl2' := HCL'.out wr HQ.out.below
              have hcd := HCD.out wr HQ.out.below
              have hdd : ∀ nn j, ∃ mm, (wr.drewN nn).drewN j = wr.drewN mm := fun nn j => ⟨nn + j, World.drewN_drewN ..⟩
              go_wp2_with fail
              refine wp_region_inv3 (fun iq v => match iq with
                | 0 => v = .pointer (some ⟨w.heap.size, 0, none⟩)
                | 1 => v = .slice (some ⟨ba, oa, none⟩) a.length ca
                | 2 => v = .int .i64 k
                | 3 => v = .pointer (some ⟨ba, oa + k, none⟩)
                | 4 => v = .float .f32 x
                | 5 => v = .pointer (some ⟨(w.heap.size + 1), 0, none⟩)
                | 6 => v = .slice (some ⟨ba', oa', none⟩) a'.length ca'
                | 7 => v = .int .i64 k
                | 8 => v = .pointer (some ⟨ba', oa' + k, none⟩)
                | 9 => v = .float .f32 p
                | 10 => v = .bool (FloatKind.f32.format.order x p != some .eq)
                | _ => False) (fun _ ww => ∃ nn, ww = wr.drewN nn) (by kernel_rfl) (by kernel_rfl) ⟨1, rfl⟩ ?hop ?hend
              case hop =>
                intro q o hq listed act w3 hI hnot hcl hall
                obtain ⟨nn, rfl⟩ := hI.cls
                rcases q with _ | _ | _ | _ | _ | _ | _ | _ | _ | _ | _ | q
                · simp at hq; subst hq
                  have g3 : act.tmps[3]?.getD undef = .pointer (some ⟨w.heap.size, 0, none⟩) := hI.kept 3 (by kernel_rfl)
                  clear hI hall hnot hcl
                  refine .inl ⟨wanted_none rfl, ?_⟩
                  unfold Oper.wp
                  go_simp
                  all_goals exact ⟨_, rfl, rfl, ⟨_, rfl⟩⟩
                · simp at hq; subst hq
                  have g40 : act.tmps[40]?.getD undef = .pointer (some ⟨w.heap.size, 0, none⟩) := hI.has 0 40 rfl (hall ⟨0, .data⟩ (by simp) rfl)
                  clear hI hall hnot hcl
                  refine .inl ⟨wanted_none rfl, ?_⟩
                  unfold Oper.wp
                  go_simp
                  all_goals exact ⟨_, rfl, rfl, ⟨_, rfl⟩⟩
                · simp at hq; subst hq
                  have g9 : act.tmps[9]?.getD undef = .int .i64 k := hI.kept 9 (by kernel_rfl)
                  clear hI hall hnot hcl
                  refine .inl ⟨wanted_none rfl, ?_⟩
                  unfold Oper.wp
                  go_simp
                  all_goals exact ⟨_, rfl, rfl, ⟨_, rfl⟩⟩
                · simp at hq; subst hq
                  have g41 : act.tmps[41]?.getD undef = .slice (some ⟨ba, oa, none⟩) a.length ca := hI.has 1 41 rfl (hall ⟨1, .data⟩ (by simp) rfl)
                  have g42 : act.tmps[42]?.getD undef = .int .i64 k := hI.has 2 42 rfl (hall ⟨2, .data⟩ (by simp) rfl)
                  clear hI hall hnot hcl
                  refine .inl ⟨wanted_none rfl, ?_⟩
                  unfold Oper.wp
                  go_simp
                  all_goals exact ⟨_, rfl, rfl, ⟨_, rfl⟩⟩
                · simp at hq; subst hq
                  have g43 : act.tmps[43]?.getD undef = .pointer (some ⟨ba, oa + k, none⟩) := hI.has 3 43 rfl (hall ⟨3, .data⟩ (by simp) rfl)
                  clear hI hall hnot hcl
                  refine .inl ⟨wanted_none rfl, ?_⟩
                  unfold Oper.wp
                  go_simp
                  all_goals exact ⟨_, rfl, rfl, ⟨_, rfl⟩⟩
                · simp at hq; subst hq
                  have g4 : act.tmps[4]?.getD undef = .pointer (some ⟨(w.heap.size + 1), 0, none⟩) := hI.kept 4 (by kernel_rfl)
                  clear hI hall hnot hcl
                  refine .inl ⟨wanted_none rfl, ?_⟩
                  unfold Oper.wp
                  go_simp
                  all_goals exact ⟨_, rfl, rfl, ⟨_, rfl⟩⟩
                · simp at hq; subst hq
                  have g45 : act.tmps[45]?.getD undef = .pointer (some ⟨(w.heap.size + 1), 0, none⟩) := hI.has 5 45 rfl (hall ⟨5, .data⟩ (by simp) rfl)
                  clear hI hall hnot hcl
                  refine .inl ⟨wanted_none rfl, ?_⟩
                  unfold Oper.wp
                  go_simp
                  all_goals exact ⟨_, rfl, rfl, ⟨_, rfl⟩⟩
                · simp at hq; subst hq
                  have g9 : act.tmps[9]?.getD undef = .int .i64 k := hI.kept 9 (by kernel_rfl)
                  clear hI hall hnot hcl
                  refine .inl ⟨wanted_none rfl, ?_⟩
                  unfold Oper.wp
                  go_simp
                  all_goals exact ⟨_, rfl, rfl, ⟨_, rfl⟩⟩
                · simp at hq; subst hq
                  have g46 : act.tmps[46]?.getD undef = .slice (some ⟨ba', oa', none⟩) a'.length ca' := hI.has 6 46 rfl (hall ⟨6, .data⟩ (by simp) rfl)
                  have g47 : act.tmps[47]?.getD undef = .int .i64 k := hI.has 7 47 rfl (hall ⟨7, .data⟩ (by simp) rfl)
                  clear hI hall hnot hcl
                  refine .inl ⟨wanted_none rfl, ?_⟩
                  unfold Oper.wp
                  go_simp
                  all_goals exact ⟨_, rfl, rfl, ⟨_, rfl⟩⟩
                · simp at hq; subst hq
                  have g48 : act.tmps[48]?.getD undef = .pointer (some ⟨ba', oa' + k, none⟩) := hI.has 8 48 rfl (hall ⟨8, .data⟩ (by simp) rfl)
                  clear hI hall hnot hcl
                  refine .inl ⟨wanted_none rfl, ?_⟩
                  unfold Oper.wp
                  go_simp
                  all_goals exact ⟨_, rfl, rfl, ⟨_, rfl⟩⟩
                · simp at hq; subst hq
                  have g44 : act.tmps[44]?.getD undef = .float .f32 x := hI.has 4 44 rfl (hall ⟨4, .data⟩ (by simp) rfl)
                  have g49 : act.tmps[49]?.getD undef = .float .f32 p := hI.has 9 49 rfl (hall ⟨9, .data⟩ (by simp) rfl)
                  clear hI hall hnot hcl
                  refine .inl ⟨wanted_none rfl, ?_⟩
                  unfold Oper.wp
                  go_simp
                  all_goals exact ⟨_, rfl, rfl, ⟨_, rfl⟩⟩
                · simp at hq
              case hend =>
                intro listed act w3 hI hall
                obtain ⟨nn, rfl⟩ := hI.cls
                have g50 : act.tmps[50]?.getD undef = .bool (FloatKind.f32.format.order x p != some .eq) := hI.has 10 50 rfl (hall 10 (by decide))
                have g9 := hI.kept 9 (by kernel_rfl)
                conv at g9 => rhs; whnf
                have g0 := hI.kept 0 (by kernel_rfl)
                conv at g0 => rhs; whnf
                have g1 := hI.kept 1 (by kernel_rfl)
                conv at g1 => rhs; whnf
                have g2 := hI.kept 2 (by kernel_rfl)
                conv at g2 => rhs; whnf
                have g3 := hI.kept 3 (by kernel_rfl)
                conv at g3 => rhs; whnf
                have g4 := hI.kept 4 (by kernel_rfl)
                conv at g4 => rhs; whnf
                have g5 : act.tmps[5]?.getD undef = undef := hI.kept 5 (by kernel_rfl)
                have g6 := hI.kept 6 (by kernel_rfl)
                conv at g6 => rhs; whnf
                have g8 := hI.kept 8 (by kernel_rfl)
                conv at g8 => rhs; whnf
                have g11 := hI.kept 11 (by kernel_rfl)
                conv at g11 => rhs; whnf
                have g12 := hI.kept 12 (by kernel_rfl)
                conv at g12 => rhs; whnf
                have g13 := hI.kept 13 (by kernel_rfl)
                conv at g13 => rhs; whnf
                have g14 := hI.kept 14 (by kernel_rfl)
                conv at g14 => rhs; whnf
                have g15 := hI.kept 15 (by kernel_rfl)
                conv at g15 => rhs; whnf
                have g16 := hI.kept 16 (by kernel_rfl)
                conv at g16 => rhs; whnf
                have g17 := hI.kept 17 (by kernel_rfl)
                conv at g17 => rhs; whnf
                have g18 := hI.kept 18 (by kernel_rfl)
                conv at g18 => rhs; whnf
                have g19 := hI.kept 19 (by kernel_rfl)
                conv at g19 => rhs; whnf
                have g20 := hI.kept 20 (by kernel_rfl)
                conv at g20 => rhs; whnf
                have g21 := hI.kept 21 (by kernel_rfl)
                conv at g21 => rhs; whnf
                have g22 := hI.kept 22 (by kernel_rfl)
                conv at g22 => rhs; whnf
                have g23 := hI.kept 23 (by kernel_rfl)
                conv at g23 => rhs; whnf
                have g24 := hI.kept 24 (by kernel_rfl)
                conv at g24 => rhs; whnf
                have g25 := hI.kept 25 (by kernel_rfl)
                conv at g25 => rhs; whnf
                have g26 := hI.kept 26 (by kernel_rfl)
                conv at g26 => rhs; whnf
                have g27 := hI.kept 27 (by kernel_rfl)
                conv at g27 => rhs; whnf
                have g28 := hI.kept 28 (by kernel_rfl)
                conv at g28 => rhs; whnf
                have g29 := hI.kept 29 (by kernel_rfl)
                conv at g29 => rhs; whnf
                have g30 := hI.kept 30 (by kernel_rfl)
                conv at g30 => rhs; whnf
                have g32 := hI.kept 32 (by kernel_rfl)
                conv at g32 => rhs; whnf
                have g97 : act.tmps[97]?.getD undef = undef := hI.kept 97 (by kernel_rfl)
                have g98 : act.tmps[98]?.getD undef = undef := hI.kept 98 (by kernel_rfl)
                have g99 : act.tmps[99]?.getD undef = undef := hI.kept 99 (by kernel_rfl)
                have g100 : act.tmps[100]?.getD undef = undef := hI.kept 100 (by kernel_rfl)
                have g31 : act.tmps[31]?.getD undef = undef := hI.kept 31 (by kernel_rfl)
                have hsz : act.tmps.size = 101 := hI.size.trans (by kernel_rfl)
                have hd := hI.defers
                clear hI hall
                obtain ⟨tt, dd⟩ := act
                simp only at g0 g1 g2 g3 g4 g5 g6 g8 g9 g11 g12 g13 g14 g15 g16 g17 g18 g19 g20 g21 g22 g23 g24 g25 g26 g27 g28 g29 g30 g31 g32 g50 g97 g98 g99 g100 hsz hd
                subst hd
                have hl : tt = #[tt[0]?.getD undef, tt[1]?.getD undef, tt[2]?.getD undef, tt[3]?.getD undef, tt[4]?.getD undef, tt[5]?.getD undef, tt[6]?.getD undef, tt[7]?.getD undef, tt[8]?.getD undef, tt[9]?.getD undef, tt[10]?.getD undef, tt[11]?.getD undef, tt[12]?.getD undef, tt[13]?.getD undef, tt[14]?.getD undef, tt[15]?.getD undef, tt[16]?.getD undef, tt[17]?.getD undef, tt[18]?.getD undef, tt[19]?.getD undef, tt[20]?.getD undef, tt[21]?.getD undef, tt[22]?.getD undef, tt[23]?.getD undef, tt[24]?.getD undef, tt[25]?.getD undef, tt[26]?.getD undef, tt[27]?.getD undef, tt[28]?.getD undef, tt[29]?.getD undef, tt[30]?.getD undef, tt[31]?.getD undef, tt[32]?.getD undef, tt[33]?.getD undef, tt[34]?.getD undef, tt[35]?.getD undef, tt[36]?.getD undef, tt[37]?.getD undef, tt[38]?.getD undef, tt[39]?.getD undef, tt[40]?.getD undef, tt[41]?.getD undef, tt[42]?.getD undef, tt[43]?.getD undef, tt[44]?.getD undef, tt[45]?.getD undef, tt[46]?.getD undef, tt[47]?.getD undef, tt[48]?.getD undef, tt[49]?.getD undef, tt[50]?.getD undef, tt[51]?.getD undef, tt[52]?.getD undef, tt[53]?.getD undef, tt[54]?.getD undef, tt[55]?.getD undef, tt[56]?.getD undef, tt[57]?.getD undef, tt[58]?.getD undef, tt[59]?.getD undef, tt[60]?.getD undef, tt[61]?.getD undef, tt[62]?.getD undef, tt[63]?.getD undef, tt[64]?.getD undef, tt[65]?.getD undef, tt[66]?.getD undef, tt[67]?.getD undef, tt[68]?.getD undef, tt[69]?.getD undef, tt[70]?.getD undef, tt[71]?.getD undef, tt[72]?.getD undef, tt[73]?.getD undef, tt[74]?.getD undef, tt[75]?.getD undef, tt[76]?.getD undef, tt[77]?.getD undef, tt[78]?.getD undef, tt[79]?.getD undef, tt[80]?.getD undef, tt[81]?.getD undef, tt[82]?.getD undef, tt[83]?.getD undef, tt[84]?.getD undef, tt[85]?.getD undef, tt[86]?.getD undef, tt[87]?.getD undef, tt[88]?.getD undef, tt[89]?.getD undef, tt[90]?.getD undef, tt[91]?.getD undef, tt[92]?.getD undef, tt[93]?.getD undef, tt[94]?.getD undef, tt[95]?.getD undef, tt[96]?.getD undef, tt[97]?.getD undef, tt[98]?.getD undef, tt[99]?.getD undef, tt[100]?.getD undef] := (arr_lit hsz).trans rfl
                rw [g0, g1, g2, g3, g4, g5, g6, g8, g9, g11, g12, g13, g14, g15, g16, g17, g18, g19, g20, g21, g22, g23, g24, g25, g26, g27, g28, g29, g30, g31, g32, g50, g97, g98, g99, g100] at hl
                clear g0 g1 g2 g3 g4 g5 g6 g8 g9 g11 g12 g13 g14 g15 g16 g17 g18 g19 g20 g21 g22 g23 g24 g25 g26 g27 g28 g29 g30 g31 g32 g50 g97 g98 g99 g100 hsz
                generalize tt[7]?.getD undef = y7 at hl
                generalize tt[10]?.getD undef = y10 at hl
                generalize tt[33]?.getD undef = y33 at hl
                generalize tt[34]?.getD undef = y34 at hl
                generalize tt[35]?.getD undef = y35 at hl
                generalize tt[36]?.getD undef = y36 at hl
                generalize tt[37]?.getD undef = y37 at hl
                generalize tt[38]?.getD undef = y38 at hl
                generalize tt[39]?.getD undef = y39 at hl
                generalize tt[40]?.getD undef = y40 at hl
                generalize tt[41]?.getD undef = y41 at hl
                generalize tt[42]?.getD undef = y42 at hl
                generalize tt[43]?.getD undef = y43 at hl
                generalize tt[44]?.getD undef = y44 at hl
                generalize tt[45]?.getD undef = y45 at hl
                generalize tt[46]?.getD undef = y46 at hl
                generalize tt[47]?.getD undef = y47 at hl
                generalize tt[48]?.getD undef = y48 at hl
                generalize tt[49]?.getD undef = y49 at hl
                generalize tt[51]?.getD undef = y51 at hl
                generalize tt[52]?.getD undef = y52 at hl
                generalize tt[53]?.getD undef = y53 at hl
                generalize tt[54]?.getD undef = y54 at hl
                generalize tt[55]?.getD undef = y55 at hl
                generalize tt[56]?.getD undef = y56 at hl
                generalize tt[57]?.getD undef = y57 at hl
                generalize tt[58]?.getD undef = y58 at hl
                generalize tt[59]?.getD undef = y59 at hl
                generalize tt[60]?.getD undef = y60 at hl
                generalize tt[61]?.getD undef = y61 at hl
                generalize tt[62]?.getD undef = y62 at hl
                generalize tt[63]?.getD undef = y63 at hl
                generalize tt[64]?.getD undef = y64 at hl
                generalize tt[65]?.getD undef = y65 at hl
                generalize tt[66]?.getD undef = y66 at hl
                generalize tt[67]?.getD undef = y67 at hl
                generalize tt[68]?.getD undef = y68 at hl
                generalize tt[69]?.getD undef = y69 at hl
                generalize tt[70]?.getD undef = y70 at hl
                generalize tt[71]?.getD undef = y71 at hl
                generalize tt[72]?.getD undef = y72 at hl
                generalize tt[73]?.getD undef = y73 at hl
                generalize tt[74]?.getD undef = y74 at hl
                generalize tt[75]?.getD undef = y75 at hl
                generalize tt[76]?.getD undef = y76 at hl
                generalize tt[77]?.getD undef = y77 at hl
                generalize tt[78]?.getD undef = y78 at hl
                generalize tt[79]?.getD undef = y79 at hl
                generalize tt[80]?.getD undef = y80 at hl
                generalize tt[81]?.getD undef = y81 at hl
                generalize tt[82]?.getD undef = y82 at hl
                generalize tt[83]?.getD undef = y83 at hl
                generalize tt[84]?.getD undef = y84 at hl
                generalize tt[85]?.getD undef = y85 at hl
                generalize tt[86]?.getD undef = y86 at hl
                generalize tt[87]?.getD undef = y87 at hl
                generalize tt[88]?.getD undef = y88 at hl
                generalize tt[89]?.getD undef = y89 at hl
                generalize tt[90]?.getD undef = y90 at hl
                generalize tt[91]?.getD undef = y91 at hl
                generalize tt[92]?.getD undef = y92 at hl
                generalize tt[93]?.getD undef = y93 at hl
                generalize tt[94]?.getD undef = y94 at hl
                generalize tt[95]?.getD undef = y95 at hl
                generalize tt[96]?.getD undef = y96 at hl
                subst hl
                obtain ⟨wv, hwv⟩ : ∃ x, x = wr.drewN nn := ⟨_, rfl⟩
                rw [← hwv]
                have HQV : Hid (PQ w1 w2.heap.size X0 Y0 Z0 wv) := Lib.hid (by rw [hwv]; exact HQ.out.draws _)
                clear hwv hdd hca hca' hcl2 hcl2' hcd HQ k0 k1 k2 k0' k1' k2'
                cases hev : (FloatKind.f32.format.order x p != some .eq)
                case true =>
                  have HN : Hid (O = false) := Lib.hid (HOE.out (k + 1) (by rw [HEV.out]; unfold eqv; simpa using hev) (by omega))
                  clear hev
                  have LRV : Hid (BlkL wv (w.heap.size + 2) [.slice none 0 0, .slice none 0 0, .slice none 0 0]) := Lib.hid (LR.out.below HQV.out.below)
                  have BV : Hid (Below w.heap.size w wv) := Lib.hid (below_of B1.out B1.out.size HQV.out.below)
                  have p0 := (LRV.out.2 0 _ rfl).1
                  have q0 := (LRV.out.2 0 _ rfl).2
                  have p1 := (LRV.out.2 1 _ rfl).1
                  have q1 := (LRV.out.2 1 _ rfl).2
                  have p2 := (LRV.out.2 2 _ rfl).1
                  have q2 := (LRV.out.2 2 _ rfl).2
                  go_wp2
                  refine bodyPost_ret (v := .tuple #[.agg #[.slice none 0 0, .slice none 0 0, .slice none 0 0], .bool false]) ?_ rfl ?_
                  · simp [results, Try.results30, go_sem, p0, p1, p2]
                  · rw [HN.out]
                    exact ⟨none, none, none, 0, 0, 0, 0, 1, 2, rfl, OwnQ.none _ _, (((BV.out).setCell (p := ⟨w.heap.size + 2, 0, none⟩) (by show w.heap.size ≤ w.heap.size + 2; omega) _).setCell (p := ⟨w.heap.size + 2, 1, none⟩) (by show w.heap.size ≤ w.heap.size + 2; omega) _).setCell (p := ⟨w.heap.size + 2, 2, none⟩) (by show w.heap.size ≤ w.heap.size + 2; omega) _⟩
                case false =>
                  have HE2 : Hid (eqvK a a' (k + 1) = true) := Lib.hid (by rw [HEV.out]; unfold eqv; simpa using hev)
                  clear hev
                  obtain ⟨-, ⟨k0, k1, k2⟩, -, -, -⟩ := L0.out.below HQV.out.below
                  obtain ⟨-, ⟨k0', k1', k2'⟩, -, -, -⟩ := L0'.out.below HQV.out.below
                  have hca := HCA.out wv HQV.out.below
                  have hca' := HCA'.out wv HQV.out.below
                  have hcl2 := HCL.out wv HQV.out.below
                  have hcl2' := HCL'.out wv HQV.out.below
                  have hdd : ∀ nn j, ∃ mm, (wv.drewN nn).drewN j = wv.drewN mm := fun nn j => ⟨nn + j, World.drewN_drewN ..⟩
                  go_wp2_with fail
                  refine wp_region_inv3 (fun iq v => match iq with
                    | 0 => v = .pointer (some ⟨w.heap.size, 1, none⟩)
                    | 1 => v = .slice (some ⟨bl, ol, none⟩) l.length cl
                    | 2 => v = .int .i64 k
                    | 3 => v = .pointer (some ⟨bl, ol + k, none⟩)
                    | 4 => v = .float .f32 y
                    | 5 => v = .float .f32 s
                    | 6 => v = .pointer (some ⟨(w.heap.size + 1), 1, none⟩)
                    | 7 => v = .slice (some ⟨bl', ol', none⟩) l'.length cl'
                    | 8 => v = .int .i64 k
                    | 9 => v = .pointer (some ⟨bl', ol' + k, none⟩)
                    | 10 => v = .float .f32 q1
                    | 11 => v = .pointer (some ⟨w.heap.size, 1, none⟩)
                    | 12 => v = .slice (some ⟨bl, ol, none⟩) l.length cl
                    | 13 => v = .int .i64 k
                    | 14 => v = .pointer (some ⟨bl, ol + k, none⟩)
                    | 15 => v = .float .f32 y
                    | 16 => ∃ r, v = .float .f32 r ∧ canon .f32 r = fop .sub .f32 (canon .f32 q1) (canon .f32 y)
                    | 17 => ∃ r, v = .float .f32 r ∧ canon .f32 r = fop .mul .f32 (canon .f32 s) (fop .sub .f32 (canon .f32 q1) (canon .f32 y))
                    | 18 => ∃ r, v = .float .f32 r ∧ canon .f32 r = fop .add .f32 (canon .f32 y) (fop .mul .f32 (canon .f32 s) (fop .sub .f32 (canon .f32 q1) (canon .f32 y)))
                    | 19 => ∃ r, v = .float .f32 r ∧ canon .f32 r = fop .add .f32 (canon .f32 y) (fop .mul .f32 (canon .f32 s) (fop .sub .f32 (canon .f32 q1) (canon .f32 y)))
                    | _ => False) (fun _ ww => ∃ nn, ww = wv.drewN nn) (by kernel_rfl) (by kernel_rfl) ⟨1, rfl⟩ ?hop ?hend
                  case hop =>
                    intro q o hq listed act w3 hI hnot hcl hall
                    obtain ⟨nn, rfl⟩ := hI.cls
                    rcases q with _ | _ | _ | _ | _ | _ | _ | _ | _ | _ | _ | _ | _ | _ | _ | _ | _ | _ | _ | _ | q
                    · simp at hq; subst hq
                      have g3 : act.tmps[3]?.getD undef = .pointer (some ⟨w.heap.size, 0, none⟩) := hI.kept 3 (by kernel_rfl)
                      clear hI hall hnot hcl
                      refine .inl ⟨wanted_none rfl, ?_⟩
                      unfold Oper.wp
                      go_simp
                      all_goals exact ⟨_, rfl, rfl, ⟨_, rfl⟩⟩
                    · simp at hq; subst hq
                      have g52 : act.tmps[52]?.getD undef = .pointer (some ⟨w.heap.size, 1, none⟩) := hI.has 0 52 rfl (hall ⟨0, .data⟩ (by simp) rfl)
                      clear hI hall hnot hcl
                      refine .inl ⟨wanted_none rfl, ?_⟩
                      unfold Oper.wp
                      go_simp
                      all_goals exact ⟨_, rfl, rfl, ⟨_, rfl⟩⟩
                    · simp at hq; subst hq
                      have g9 : act.tmps[9]?.getD undef = .int .i64 k := hI.kept 9 (by kernel_rfl)
                      clear hI hall hnot hcl
                      refine .inl ⟨wanted_none rfl, ?_⟩
                      unfold Oper.wp
                      go_simp
                      all_goals exact ⟨_, rfl, rfl, ⟨_, rfl⟩⟩
                    · simp at hq; subst hq
                      have g53 : act.tmps[53]?.getD undef = .slice (some ⟨bl, ol, none⟩) l.length cl := hI.has 1 53 rfl (hall ⟨1, .data⟩ (by simp) rfl)
                      have g54 : act.tmps[54]?.getD undef = .int .i64 k := hI.has 2 54 rfl (hall ⟨2, .data⟩ (by simp) rfl)
                      clear hI hall hnot hcl
                      refine .inl ⟨wanted_none rfl, ?_⟩
                      unfold Oper.wp
                      go_simp
                      all_goals exact ⟨_, rfl, rfl, ⟨_, rfl⟩⟩
                    · simp at hq; subst hq
                      have g55 : act.tmps[55]?.getD undef = .pointer (some ⟨bl, ol + k, none⟩) := hI.has 3 55 rfl (hall ⟨3, .data⟩ (by simp) rfl)
                      clear hI hall hnot hcl
                      refine .inl ⟨wanted_none rfl, ?_⟩
                      unfold Oper.wp
                      go_simp
                      all_goals exact ⟨_, rfl, rfl, ⟨_, rfl⟩⟩
                    · simp at hq; subst hq
                      have g2 : act.tmps[2]?.getD undef = .float .f32 s := hI.kept 2 (by kernel_rfl)
                      clear hI hall hnot hcl
                      refine .inl ⟨wanted_none rfl, ?_⟩
                      unfold Oper.wp
                      go_simp
                      all_goals exact ⟨_, rfl, rfl, ⟨_, rfl⟩⟩
                    · simp at hq; subst hq
                      have g4 : act.tmps[4]?.getD undef = .pointer (some ⟨(w.heap.size + 1), 0, none⟩) := hI.kept 4 (by kernel_rfl)
                      clear hI hall hnot hcl
                      refine .inl ⟨wanted_none rfl, ?_⟩
                      unfold Oper.wp
                      go_simp
                      all_goals exact ⟨_, rfl, rfl, ⟨_, rfl⟩⟩
                    · simp at hq; subst hq
                      have g58 : act.tmps[58]?.getD undef = .pointer (some ⟨(w.heap.size + 1), 1, none⟩) := hI.has 6 58 rfl (hall ⟨6, .data⟩ (by simp) rfl)
                      clear hI hall hnot hcl
                      refine .inl ⟨wanted_none rfl, ?_⟩
                      unfold Oper.wp
                      go_simp
                      all_goals exact ⟨_, rfl, rfl, ⟨_, rfl⟩⟩
                    · simp at hq; subst hq
                      have g9 : act.tmps[9]?.getD undef = .int .i64 k := hI.kept 9 (by kernel_rfl)
                      clear hI hall hnot hcl
                      refine .inl ⟨wanted_none rfl, ?_⟩
                      unfold Oper.wp
                      go_simp
                      all_goals exact ⟨_, rfl, rfl, ⟨_, rfl⟩⟩
                    · simp at hq; subst hq
                      have g59 : act.tmps[59]?.getD undef = .slice (some ⟨bl', ol', none⟩) l'.length cl' := hI.has 7 59 rfl (hall ⟨7, .data⟩ (by simp) rfl)
                      have g60 : act.tmps[60]?.getD undef = .int .i64 k := hI.has 8 60 rfl (hall ⟨8, .data⟩ (by simp) rfl)
                      clear hI hall hnot hcl
                      refine .inl ⟨wanted_none rfl, ?_⟩
                      unfold Oper.wp
                      go_simp
                      all_goals exact ⟨_, rfl, rfl, ⟨_, rfl⟩⟩
                    · simp at hq; subst hq
                      have g61 : act.tmps[61]?.getD undef = .pointer (some ⟨bl', ol' + k, none⟩) := hI.has 9 61 rfl (hall ⟨9, .data⟩ (by simp) rfl)
                      clear hI hall hnot hcl
                      refine .inl ⟨wanted_none rfl, ?_⟩
                      unfold Oper.wp
                      go_simp
                      all_goals exact ⟨_, rfl, rfl, ⟨_, rfl⟩⟩
                    · simp at hq; subst hq
                      have g3 : act.tmps[3]?.getD undef = .pointer (some ⟨w.heap.size, 0, none⟩) := hI.kept 3 (by kernel_rfl)
                      clear hI hall hnot hcl
                      refine .inl ⟨wanted_none rfl, ?_⟩
                      unfold Oper.wp
                      go_simp
                      all_goals exact ⟨_, rfl, rfl, ⟨_, rfl⟩⟩
                    · simp at hq; subst hq
                      have g63 : act.tmps[63]?.getD undef = .pointer (some ⟨w.heap.size, 1, none⟩) := hI.has 11 63 rfl (hall ⟨11, .data⟩ (by simp) rfl)
                      clear hI hall hnot hcl
                      refine .inl ⟨wanted_none rfl, ?_⟩
                      unfold Oper.wp
                      go_simp
                      all_goals exact ⟨_, rfl, rfl, ⟨_, rfl⟩⟩
                    · simp at hq; subst hq
                      have g9 : act.tmps[9]?.getD undef = .int .i64 k := hI.kept 9 (by kernel_rfl)
                      clear hI hall hnot hcl
                      refine .inl ⟨wanted_none rfl, ?_⟩
                      unfold Oper.wp
                      go_simp
                      all_goals exact ⟨_, rfl, rfl, ⟨_, rfl⟩⟩
                    · simp at hq; subst hq
                      have g64 : act.tmps[64]?.getD undef = .slice (some ⟨bl, ol, none⟩) l.length cl := hI.has 12 64 rfl (hall ⟨12, .data⟩ (by simp) rfl)
                      have g65 : act.tmps[65]?.getD undef = .int .i64 k := hI.has 13 65 rfl (hall ⟨13, .data⟩ (by simp) rfl)
                      clear hI hall hnot hcl
                      refine .inl ⟨wanted_none rfl, ?_⟩
                      unfold Oper.wp
                      go_simp
                      all_goals exact ⟨_, rfl, rfl, ⟨_, rfl⟩⟩
                    · simp at hq; subst hq
                      have g66 : act.tmps[66]?.getD undef = .pointer (some ⟨bl, ol + k, none⟩) := hI.has 14 66 rfl (hall ⟨14, .data⟩ (by simp) rfl)
                      clear hI hall hnot hcl
                      refine .inl ⟨wanted_none rfl, ?_⟩
                      unfold Oper.wp
                      go_simp
                      all_goals exact ⟨_, rfl, rfl, ⟨_, rfl⟩⟩
                    · simp at hq; subst hq
                      have g62 : act.tmps[62]?.getD undef = .float .f32 q1 := hI.has 10 62 rfl (hall ⟨10, .data⟩ (by simp) rfl)
                      have g67 : act.tmps[67]?.getD undef = .float .f32 y := hI.has 15 67 rfl (hall ⟨15, .data⟩ (by simp) rfl)
                      clear hI hall hnot hcl
                      refine .inl ⟨wanted_none rfl, ?_⟩
                      unfold Oper.wp
                      go_simp
                      exact ⟨_, rfl, ⟨_, rfl, canonF rfl rfl⟩, by first | exact ⟨_, rfl⟩ | exact hdd _ _⟩
                    · simp at hq; subst hq
                      have g57 : act.tmps[57]?.getD undef = .float .f32 s := hI.has 5 57 rfl (hall ⟨5, .data⟩ (by simp) rfl)
                      obtain ⟨r16, g68, h16a⟩ := hI.has 16 68 rfl (hall ⟨16, .data⟩ (by simp) rfl)
                      clear hI hall hnot hcl
                      refine .inl ⟨wanted_none rfl, ?_⟩
                      unfold Oper.wp
                      go_simp
                      exact ⟨_, rfl, ⟨_, rfl, canonF rfl h16a⟩, by first | exact ⟨_, rfl⟩ | exact hdd _ _⟩
                    · simp at hq; subst hq
                      have g56 : act.tmps[56]?.getD undef = .float .f32 y := hI.has 4 56 rfl (hall ⟨4, .data⟩ (by simp) rfl)
                      obtain ⟨r17, g69, h17a⟩ := hI.has 17 69 rfl (hall ⟨17, .data⟩ (by simp) rfl)
                      clear hI hall hnot hcl
                      refine .inl ⟨wanted_none rfl, ?_⟩
                      unfold Oper.wp
                      go_simp
                      exact ⟨_, rfl, ⟨_, rfl, canonF rfl h17a⟩, by first | exact ⟨_, rfl⟩ | exact hdd _ _⟩
                    · simp at hq; subst hq
                      obtain ⟨r18, g70, h18a⟩ := hI.has 18 70 rfl (hall ⟨18, .data⟩ (by simp) rfl)
                      clear hI hall hnot hcl
                      refine .inl ⟨wanted_none rfl, ?_⟩
                      unfold Oper.wp
                      go_simp
                      exact ⟨_, rfl, ⟨_, rfl, h18a⟩, ⟨_, rfl⟩⟩
                    · simp at hq
                  case hend =>
                    intro listed act w3 hI hall
                    obtain ⟨nn, rfl⟩ := hI.cls
                    obtain ⟨r10, g10, h10⟩ := hI.has 19 10 rfl (hall 19 (by decide))
                    have g9 := hI.kept 9 (by kernel_rfl)
                    conv at g9 => rhs; whnf
                    have g0 := hI.kept 0 (by kernel_rfl)
                    conv at g0 => rhs; whnf
                    have g1 := hI.kept 1 (by kernel_rfl)
                    conv at g1 => rhs; whnf
                    have g2 := hI.kept 2 (by kernel_rfl)
                    conv at g2 => rhs; whnf
                    have g3 := hI.kept 3 (by kernel_rfl)
                    conv at g3 => rhs; whnf
                    have g4 := hI.kept 4 (by kernel_rfl)
                    conv at g4 => rhs; whnf
                    have g5 : act.tmps[5]?.getD undef = undef := hI.kept 5 (by kernel_rfl)
                    have g6 := hI.kept 6 (by kernel_rfl)
                    conv at g6 => rhs; whnf
                    have g8 := hI.kept 8 (by kernel_rfl)
                    conv at g8 => rhs; whnf
                    have g11 := hI.kept 11 (by kernel_rfl)
                    conv at g11 => rhs; whnf
                    have g12 := hI.kept 12 (by kernel_rfl)
                    conv at g12 => rhs; whnf
                    have g13 := hI.kept 13 (by kernel_rfl)
                    conv at g13 => rhs; whnf
                    have g14 := hI.kept 14 (by kernel_rfl)
                    conv at g14 => rhs; whnf
                    have g15 := hI.kept 15 (by kernel_rfl)
                    conv at g15 => rhs; whnf
                    have g16 := hI.kept 16 (by kernel_rfl)
                    conv at g16 => rhs; whnf
                    have g17 := hI.kept 17 (by kernel_rfl)
                    conv at g17 => rhs; whnf
                    have g18 := hI.kept 18 (by kernel_rfl)
                    conv at g18 => rhs; whnf
                    have g19 := hI.kept 19 (by kernel_rfl)
                    conv at g19 => rhs; whnf
                    have g20 := hI.kept 20 (by kernel_rfl)
                    conv at g20 => rhs; whnf
                    have g21 := hI.kept 21 (by kernel_rfl)
                    conv at g21 => rhs; whnf
                    have g22 := hI.kept 22 (by kernel_rfl)
                    conv at g22 => rhs; whnf
                    have g23 := hI.kept 23 (by kernel_rfl)
                    conv at g23 => rhs; whnf
                    have g24 := hI.kept 24 (by kernel_rfl)
                    conv at g24 => rhs; whnf
                    have g25 := hI.kept 25 (by kernel_rfl)
                    conv at g25 => rhs; whnf
                    have g26 := hI.kept 26 (by kernel_rfl)
                    conv at g26 => rhs; whnf
                    have g27 := hI.kept 27 (by kernel_rfl)
                    conv at g27 => rhs; whnf
                    have g28 := hI.kept 28 (by kernel_rfl)
                    conv at g28 => rhs; whnf
                    have g29 := hI.kept 29 (by kernel_rfl)
                    conv at g29 => rhs; whnf
                    have g30 := hI.kept 30 (by kernel_rfl)
                    conv at g30 => rhs; whnf
                    have g32 := hI.kept 32 (by kernel_rfl)
                    conv at g32 => rhs; whnf
                    have g97 : act.tmps[97]?.getD undef = undef := hI.kept 97 (by kernel_rfl)
                    have g98 : act.tmps[98]?.getD undef = undef := hI.kept 98 (by kernel_rfl)
                    have g99 : act.tmps[99]?.getD undef = undef := hI.kept 99 (by kernel_rfl)
                    have g100 : act.tmps[100]?.getD undef = undef := hI.kept 100 (by kernel_rfl)
                    have g31 : act.tmps[31]?.getD undef = undef := hI.kept 31 (by kernel_rfl)
                    have hsz : act.tmps.size = 101 := hI.size.trans (by kernel_rfl)
                    have hd := hI.defers
                    clear hI hall
                    obtain ⟨tt, dd⟩ := act
                    simp only at g0 g1 g2 g3 g4 g5 g6 g8 g9 g10 g11 g12 g13 g14 g15 g16 g17 g18 g19 g20 g21 g22 g23 g24 g25 g26 g27 g28 g29 g30 g31 g32 g97 g98 g99 g100 hsz hd
                    subst hd
                    have hl : tt = #[tt[0]?.getD undef, tt[1]?.getD undef, tt[2]?.getD undef, tt[3]?.getD undef, tt[4]?.getD undef, tt[5]?.getD undef, tt[6]?.getD undef, tt[7]?.getD undef, tt[8]?.getD undef, tt[9]?.getD undef, tt[10]?.getD undef, tt[11]?.getD undef, tt[12]?.getD undef, tt[13]?.getD undef, tt[14]?.getD undef, tt[15]?.getD undef, tt[16]?.getD undef, tt[17]?.getD undef, tt[18]?.getD undef, tt[19]?.getD undef, tt[20]?.getD undef, tt[21]?.getD undef, tt[22]?.getD undef, tt[23]?.getD undef, tt[24]?.getD undef, tt[25]?.getD undef, tt[26]?.getD undef, tt[27]?.getD undef, tt[28]?.getD undef, tt[29]?.getD undef, tt[30]?.getD undef, tt[31]?.getD undef, tt[32]?.getD undef, tt[33]?.getD undef, tt[34]?.getD undef, tt[35]?.getD undef, tt[36]?.getD undef, tt[37]?.getD undef, tt[38]?.getD undef, tt[39]?.getD undef, tt[40]?.getD undef, tt[41]?.getD undef, tt[42]?.getD undef, tt[43]?.getD undef, tt[44]?.getD undef, tt[45]?.getD undef, tt[46]?.getD undef, tt[47]?.getD undef, tt[48]?.getD undef, tt[49]?.getD undef, tt[50]?.getD undef, tt[51]?.getD undef, tt[52]?.getD undef, tt[53]?.getD undef, tt[54]?.getD undef, tt[55]?.getD undef, tt[56]?.getD undef, tt[57]?.getD undef, tt[58]?.getD undef, tt[59]?.getD undef, tt[60]?.getD undef, tt[61]?.getD undef, tt[62]?.getD undef, tt[63]?.getD undef, tt[64]?.getD undef, tt[65]?.getD undef, tt[66]?.getD undef, tt[67]?.getD undef, tt[68]?.getD undef, tt[69]?.getD undef, tt[70]?.getD undef, tt[71]?.getD undef, tt[72]?.getD undef, tt[73]?.getD undef, tt[74]?.getD undef, tt[75]?.getD undef, tt[76]?.getD undef, tt[77]?.getD undef, tt[78]?.getD undef, tt[79]?.getD undef, tt[80]?.getD undef, tt[81]?.getD undef, tt[82]?.getD undef, tt[83]?.getD undef, tt[84]?.getD undef, tt[85]?.getD undef, tt[86]?.getD undef, tt[87]?.getD undef, tt[88]?.getD undef, tt[89]?.getD undef, tt[90]?.getD undef, tt[91]?.getD undef, tt[92]?.getD undef, tt[93]?.getD undef, tt[94]?.getD undef, tt[95]?.getD undef, tt[96]?.getD undef, tt[97]?.getD undef, tt[98]?.getD undef, tt[99]?.getD undef, tt[100]?.getD undef] := (arr_lit hsz).trans rfl
                    rw [g0, g1, g2, g3, g4, g5, g6, g8, g9, g10, g11, g12, g13, g14, g15, g16, g17, g18, g19, g20, g21, g22, g23, g24, g25, g26, g27, g28, g29, g30, g31, g32, g97, g98, g99, g100] at hl
                    clear g0 g1 g2 g3 g4 g5 g6 g8 g9 g10 g11 g12 g13 g14 g15 g16 g17 g18 g19 g20 g21 g22 g23 g24 g25 g26 g27 g28 g29 g30 g31 g32 g97 g98 g99 g100 hsz
                    generalize tt[7]?.getD undef = y7 at hl
                    generalize tt[33]?.getD undef = y33 at hl
                    generalize tt[34]?.getD undef = y34 at hl
                    generalize tt[35]?.getD undef = y35 at hl
                    generalize tt[36]?.getD undef = y36 at hl
                    generalize tt[37]?.getD undef = y37 at hl
                    generalize tt[38]?.getD undef = y38 at hl
                    generalize tt[39]?.getD undef = y39 at hl
                    generalize tt[40]?.getD undef = y40 at hl
                    generalize tt[41]?.getD undef = y41 at hl
                    generalize tt[42]?.getD undef = y42 at hl
                    generalize tt[43]?.getD undef = y43 at hl
                    generalize tt[44]?.getD undef = y44 at hl
                    generalize tt[45]?.getD undef = y45 at hl
                    generalize tt[46]?.getD undef = y46 at hl
                    generalize tt[47]?.getD undef = y47 at hl
                    generalize tt[48]?.getD undef = y48 at hl
                    generalize tt[49]?.getD undef = y49 at hl
                    generalize tt[50]?.getD undef = y50 at hl
                    generalize tt[51]?.getD undef = y51 at hl
                    generalize tt[52]?.getD undef = y52 at hl
                    generalize tt[53]?.getD undef = y53 at hl
                    generalize tt[54]?.getD undef = y54 at hl
                    generalize tt[55]?.getD undef = y55 at hl
                    generalize tt[56]?.getD undef = y56 at hl
                    generalize tt[57]?.getD undef = y57 at hl
                    generalize tt[58]?.getD undef = y58 at hl
                    generalize tt[59]?.getD undef = y59 at hl
                    generalize tt[60]?.getD undef = y60 at hl
                    generalize tt[61]?.getD undef = y61 at hl
                    generalize tt[62]?.getD undef = y62 at hl
                    generalize tt[63]?.getD undef = y63 at hl
                    generalize tt[64]?.getD undef = y64 at hl
                    generalize tt[65]?.getD undef = y65 at hl
                    generalize tt[66]?.getD undef = y66 at hl
                    generalize tt[67]?.getD undef = y67 at hl
                    generalize tt[68]?.getD undef = y68 at hl
                    generalize tt[69]?.getD undef = y69 at hl
                    generalize tt[70]?.getD undef = y70 at hl
                    generalize tt[71]?.getD undef = y71 at hl
                    generalize tt[72]?.getD undef = y72 at hl
                    generalize tt[73]?.getD undef = y73 at hl
                    generalize tt[74]?.getD undef = y74 at hl
                    generalize tt[75]?.getD undef = y75 at hl
                    generalize tt[76]?.getD undef = y76 at hl
                    generalize tt[77]?.getD undef = y77 at hl
                    generalize tt[78]?.getD undef = y78 at hl
                    generalize tt[79]?.getD undef = y79 at hl
                    generalize tt[80]?.getD undef = y80 at hl
                    generalize tt[81]?.getD undef = y81 at hl
                    generalize tt[82]?.getD undef = y82 at hl
                    generalize tt[83]?.getD undef = y83 at hl
                    generalize tt[84]?.getD undef = y84 at hl
                    generalize tt[85]?.getD undef = y85 at hl
                    generalize tt[86]?.getD undef = y86 at hl
                    generalize tt[87]?.getD undef = y87 at hl
                    generalize tt[88]?.getD undef = y88 at hl
                    generalize tt[89]?.getD undef = y89 at hl
                    generalize tt[90]?.getD undef = y90 at hl
                    generalize tt[91]?.getD undef = y91 at hl
                    generalize tt[92]?.getD undef = y92 at hl
                    generalize tt[93]?.getD undef = y93 at hl
                    generalize tt[94]?.getD undef = y94 at hl
                    generalize tt[95]?.getD undef = y95 at hl
                    generalize tt[96]?.getD undef = y96 at hl
                    subst hl
                    obtain ⟨wz, hwz⟩ : ∃ x, x = wv.drewN nn := ⟨_, rfl⟩
                    rw [← hwz]
                    have HQ : Hid (PQ w1 w2.heap.size X0 Y0 Z0 wz) := Lib.hid (by rw [hwz]; exact HQV.out.draws _)
                    have H10 : Hid (canon .f32 r10 = canon .f32 y') := Lib.hid (h10.trans HY1.out.symm)
                    clear hwz hdd hca hca' hcl2 hcl2' HQV k0 k1 k2 k0' k1' k2' h10
                    go_wp2_with fail
                    
                    refine wp_region_inv6 (fun iq _ v => match iq with
                      | 0 => v = .pointer (some ⟨w.heap.size, 0, none⟩)
                      | 1 => v = .slice (some ⟨ba, oa, none⟩) a.length ca
                      | 2 => v = .int .i64 k
                      | 3 => v = .pointer (some ⟨ba, oa + k, none⟩)
                      | 4 => v = .float .f32 x
                      | 5 => v = .float .f32 r10
                      | 6 => v = .pointer (some ⟨w.heap.size, 2, none⟩)
                      | 7 => v = .slice (some ⟨bd, od, none⟩) d.length cd
                      | 8 => v = .int .i64 k
                      | 9 => v = .pointer (some ⟨bd, od + k, none⟩)
                      | 10 => v = .float .f32 z
                      | 11 => v = .float .f32 s
                      | 12 => v = .pointer (some ⟨(w.heap.size + 1), 2, none⟩)
                      | 13 => v = .slice (some ⟨bd', od', none⟩) d'.length cd'
                      | 14 => v = .int .i64 k
                      | 15 => v = .pointer (some ⟨bd', od' + k, none⟩)
                      | 16 => v = .float .f32 q2
                      | 17 => v = .pointer (some ⟨w.heap.size, 2, none⟩)
                      | 18 => v = .slice (some ⟨bd, od, none⟩) d.length cd
                      | 19 => v = .int .i64 k
                      | 20 => v = .pointer (some ⟨bd, od + k, none⟩)
                      | 21 => v = .float .f32 z
                      | 22 => ∃ r, v = .float .f32 r ∧ canon .f32 r = fop .sub .f32 (canon .f32 q2) (canon .f32 z)
                      | 23 => ∃ r, v = .float .f32 r ∧ canon .f32 r = fop .mul .f32 (canon .f32 s) (fop .sub .f32 (canon .f32 q2) (canon .f32 z))
                      | 24 => ∃ r, v = .float .f32 r ∧ canon .f32 r = fop .add .f32 (canon .f32 z) (fop .mul .f32 (canon .f32 s) (fop .sub .f32 (canon .f32 q2) (canon .f32 z)))
                      | 25 => v = .tuple #[]
                      | _ => False) (CF 25 w1 w2.heap.size X0 Y0 Z0 (X0 ++ [x']) (Y0 ++ [y']) (Z0 ++ [z'])) (by kernel_rfl) (by kernel_rfl) (CF.start (HQ.out.draws 1)) ?hop ?hend
                    case hop =>
                      intro q o hq listed act w3 hI hnot hcl hall
                      have hC := hI.cls
                      have hB := hC.below
                      obtain ⟨-, ⟨kx0, kx1, kx2⟩, -, -, -⟩ := L0.out.below hB
                      obtain ⟨-, ⟨ky0, ky1, ky2⟩, -, -, -⟩ := L0'.out.below hB
                      have hca := HCA.out _ hB
                      have hcd := HCD.out _ hB
                      have hcd2 := HCD'.out _ hB
                      rcases q with _ | _ | _ | _ | _ | _ | _ | _ | _ | _ | _ | _ | _ | _ | _ | _ | _ | _ | _ | _ | _ | _ | _ | _ | _ | _ | q
                      · simp at hq; subst hq
                        have g3 : act.tmps[3]?.getD undef = .pointer (some ⟨w.heap.size, 0, none⟩) := hI.kept 3 (by kernel_rfl)
                        have hC2 := hC.keep (i := 0) hI.len (by decide) (by decide)
                        clear hI hall hnot hcl hC hB
                        refine .inl ⟨wanted_none rfl, ?_⟩
                        unfold Oper.wp
                        go_simp
                        all_goals first | exact ⟨_, rfl, fun _ _ _ h => h, rfl, hC2⟩ | exact ⟨_, rfl, rfl, hC2⟩ | exact ⟨fun _ _ _ h => h, rfl, hC2⟩ | exact ⟨rfl, hC2⟩ | exact ⟨_, rfl, hC2⟩ | exact hC2
                      · simp at hq; subst hq
                        have g71 : act.tmps[71]?.getD undef = .pointer (some ⟨w.heap.size, 0, none⟩) := hI.has 0 71 rfl (hall ⟨0, .data⟩ (by simp) rfl)
                        have hC2 := hC.keep (i := 1) hI.len (by decide) (by decide)
                        clear hI hall hnot hcl hC hB
                        refine .inl ⟨wanted_none rfl, ?_⟩
                        unfold Oper.wp
                        go_simp
                        all_goals first | exact ⟨_, rfl, fun _ _ _ h => h, rfl, hC2⟩ | exact ⟨_, rfl, rfl, hC2⟩ | exact ⟨fun _ _ _ h => h, rfl, hC2⟩ | exact ⟨rfl, hC2⟩ | exact ⟨_, rfl, hC2⟩ | exact hC2
                      · simp at hq; subst hq
                        have g9 : act.tmps[9]?.getD undef = .int .i64 k := hI.kept 9 (by kernel_rfl)
                        have hC2 := hC.keep (i := 2) hI.len (by decide) (by decide)
                        clear hI hall hnot hcl hC hB
                        refine .inl ⟨wanted_none rfl, ?_⟩
                        unfold Oper.wp
                        go_simp
                        all_goals first | exact ⟨_, rfl, fun _ _ _ h => h, rfl, hC2⟩ | exact ⟨_, rfl, rfl, hC2⟩ | exact ⟨fun _ _ _ h => h, rfl, hC2⟩ | exact ⟨rfl, hC2⟩ | exact ⟨_, rfl, hC2⟩ | exact hC2
                      · simp at hq; subst hq
                        have g72 : act.tmps[72]?.getD undef = .slice (some ⟨ba, oa, none⟩) a.length ca := hI.has 1 72 rfl (hall ⟨1, .data⟩ (by simp) rfl)
                        have g73 : act.tmps[73]?.getD undef = .int .i64 k := hI.has 2 73 rfl (hall ⟨2, .data⟩ (by simp) rfl)
                        have hC2 := hC.keep (i := 3) hI.len (by decide) (by decide)
                        clear hI hall hnot hcl hC hB
                        refine .inl ⟨wanted_none rfl, ?_⟩
                        unfold Oper.wp
                        go_simp
                        all_goals first | exact ⟨_, rfl, fun _ _ _ h => h, rfl, hC2⟩ | exact ⟨_, rfl, rfl, hC2⟩ | exact ⟨fun _ _ _ h => h, rfl, hC2⟩ | exact ⟨rfl, hC2⟩ | exact ⟨_, rfl, hC2⟩ | exact hC2
                      · simp at hq; subst hq
                        have g74 : act.tmps[74]?.getD undef = .pointer (some ⟨ba, oa + k, none⟩) := hI.has 3 74 rfl (hall ⟨3, .data⟩ (by simp) rfl)
                        have hC2 := hC.keep (i := 4) hI.len (by decide) (by decide)
                        clear hI hall hnot hcl hC hB
                        refine .inl ⟨wanted_none rfl, ?_⟩
                        unfold Oper.wp
                        go_simp
                        all_goals first | exact ⟨_, rfl, fun _ _ _ h => h, rfl, hC2⟩ | exact ⟨_, rfl, rfl, hC2⟩ | exact ⟨fun _ _ _ h => h, rfl, hC2⟩ | exact ⟨rfl, hC2⟩ | exact ⟨_, rfl, hC2⟩ | exact hC2
                      · simp at hq; subst hq
                        have g10 : act.tmps[10]?.getD undef = .float .f32 r10 := hI.kept 10 (by kernel_rfl)
                        have hC2 := hC.keep (i := 5) hI.len (by decide) (by decide)
                        clear hI hall hnot hcl hC hB
                        refine .inl ⟨wanted_none rfl, ?_⟩
                        unfold Oper.wp
                        go_simp
                        all_goals first | exact ⟨_, rfl, fun _ _ _ h => h, rfl, hC2⟩ | exact ⟨_, rfl, rfl, hC2⟩ | exact ⟨fun _ _ _ h => h, rfl, hC2⟩ | exact ⟨rfl, hC2⟩ | exact ⟨_, rfl, hC2⟩ | exact hC2
                      · simp at hq; subst hq
                        have g3 : act.tmps[3]?.getD undef = .pointer (some ⟨w.heap.size, 0, none⟩) := hI.kept 3 (by kernel_rfl)
                        have hC2 := hC.keep (i := 6) hI.len (by decide) (by decide)
                        clear hI hall hnot hcl hC hB
                        refine .inl ⟨wanted_none rfl, ?_⟩
                        unfold Oper.wp
                        go_simp
                        all_goals first | exact ⟨_, rfl, fun _ _ _ h => h, rfl, hC2⟩ | exact ⟨_, rfl, rfl, hC2⟩ | exact ⟨fun _ _ _ h => h, rfl, hC2⟩ | exact ⟨rfl, hC2⟩ | exact ⟨_, rfl, hC2⟩ | exact hC2
                      · simp at hq; subst hq
                        have g77 : act.tmps[77]?.getD undef = .pointer (some ⟨w.heap.size, 2, none⟩) := hI.has 6 77 rfl (hall ⟨6, .data⟩ (by simp) rfl)
                        have hC2 := hC.keep (i := 7) hI.len (by decide) (by decide)
                        clear hI hall hnot hcl hC hB
                        refine .inl ⟨wanted_none rfl, ?_⟩
                        unfold Oper.wp
                        go_simp
                        all_goals first | exact ⟨_, rfl, fun _ _ _ h => h, rfl, hC2⟩ | exact ⟨_, rfl, rfl, hC2⟩ | exact ⟨fun _ _ _ h => h, rfl, hC2⟩ | exact ⟨rfl, hC2⟩ | exact ⟨_, rfl, hC2⟩ | exact hC2
                      · simp at hq; subst hq
                        have g9 : act.tmps[9]?.getD undef = .int .i64 k := hI.kept 9 (by kernel_rfl)
                        have hC2 := hC.keep (i := 8) hI.len (by decide) (by decide)
                        clear hI hall hnot hcl hC hB
                        refine .inl ⟨wanted_none rfl, ?_⟩
                        unfold Oper.wp
                        go_simp
                        all_goals first | exact ⟨_, rfl, fun _ _ _ h => h, rfl, hC2⟩ | exact ⟨_, rfl, rfl, hC2⟩ | exact ⟨fun _ _ _ h => h, rfl, hC2⟩ | exact ⟨rfl, hC2⟩ | exact ⟨_, rfl, hC2⟩ | exact hC2
                      · simp at hq; subst hq
                        have g78 : act.tmps[78]?.getD undef = .slice (some ⟨bd, od, none⟩) d.length cd := hI.has 7 78 rfl (hall ⟨7, .data⟩ (by simp) rfl)
                        have g79 : act.tmps[79]?.getD undef = .int .i64 k := hI.has 8 79 rfl (hall ⟨8, .data⟩ (by simp) rfl)
                        have hC2 := hC.keep (i := 9) hI.len (by decide) (by decide)
                        clear hI hall hnot hcl hC hB
                        refine .inl ⟨wanted_none rfl, ?_⟩
                        unfold Oper.wp
                        go_simp
                        all_goals first | exact ⟨_, rfl, fun _ _ _ h => h, rfl, hC2⟩ | exact ⟨_, rfl, rfl, hC2⟩ | exact ⟨fun _ _ _ h => h, rfl, hC2⟩ | exact ⟨rfl, hC2⟩ | exact ⟨_, rfl, hC2⟩ | exact hC2
                      · simp at hq; subst hq
                        have g80 : act.tmps[80]?.getD undef = .pointer (some ⟨bd, od + k, none⟩) := hI.has 9 80 rfl (hall ⟨9, .data⟩ (by simp) rfl)
                        have hC2 := hC.keep (i := 10) hI.len (by decide) (by decide)
                        clear hI hall hnot hcl hC hB
                        refine .inl ⟨wanted_none rfl, ?_⟩
                        unfold Oper.wp
                        go_simp
                        all_goals first | exact ⟨_, rfl, fun _ _ _ h => h, rfl, hC2⟩ | exact ⟨_, rfl, rfl, hC2⟩ | exact ⟨fun _ _ _ h => h, rfl, hC2⟩ | exact ⟨rfl, hC2⟩ | exact ⟨_, rfl, hC2⟩ | exact hC2
                      · simp at hq; subst hq
                        have g2 : act.tmps[2]?.getD undef = .float .f32 s := hI.kept 2 (by kernel_rfl)
                        have hC2 := hC.keep (i := 11) hI.len (by decide) (by decide)
                        clear hI hall hnot hcl hC hB
                        refine .inl ⟨wanted_none rfl, ?_⟩
                        unfold Oper.wp
                        go_simp
                        all_goals first | exact ⟨_, rfl, fun _ _ _ h => h, rfl, hC2⟩ | exact ⟨_, rfl, rfl, hC2⟩ | exact ⟨fun _ _ _ h => h, rfl, hC2⟩ | exact ⟨rfl, hC2⟩ | exact ⟨_, rfl, hC2⟩ | exact hC2
                      · simp at hq; subst hq
                        have g4 : act.tmps[4]?.getD undef = .pointer (some ⟨(w.heap.size + 1), 0, none⟩) := hI.kept 4 (by kernel_rfl)
                        have hC2 := hC.keep (i := 12) hI.len (by decide) (by decide)
                        clear hI hall hnot hcl hC hB
                        refine .inl ⟨wanted_none rfl, ?_⟩
                        unfold Oper.wp
                        go_simp
                        all_goals first | exact ⟨_, rfl, fun _ _ _ h => h, rfl, hC2⟩ | exact ⟨_, rfl, rfl, hC2⟩ | exact ⟨fun _ _ _ h => h, rfl, hC2⟩ | exact ⟨rfl, hC2⟩ | exact ⟨_, rfl, hC2⟩ | exact hC2
                      · simp at hq; subst hq
                        have g83 : act.tmps[83]?.getD undef = .pointer (some ⟨(w.heap.size + 1), 2, none⟩) := hI.has 12 83 rfl (hall ⟨12, .data⟩ (by simp) rfl)
                        have hC2 := hC.keep (i := 13) hI.len (by decide) (by decide)
                        clear hI hall hnot hcl hC hB
                        refine .inl ⟨wanted_none rfl, ?_⟩
                        unfold Oper.wp
                        go_simp
                        all_goals first | exact ⟨_, rfl, fun _ _ _ h => h, rfl, hC2⟩ | exact ⟨_, rfl, rfl, hC2⟩ | exact ⟨fun _ _ _ h => h, rfl, hC2⟩ | exact ⟨rfl, hC2⟩ | exact ⟨_, rfl, hC2⟩ | exact hC2
                      · simp at hq; subst hq
                        have g9 : act.tmps[9]?.getD undef = .int .i64 k := hI.kept 9 (by kernel_rfl)
                        have hC2 := hC.keep (i := 14) hI.len (by decide) (by decide)
                        clear hI hall hnot hcl hC hB
                        refine .inl ⟨wanted_none rfl, ?_⟩
                        unfold Oper.wp
                        go_simp
                        all_goals first | exact ⟨_, rfl, fun _ _ _ h => h, rfl, hC2⟩ | exact ⟨_, rfl, rfl, hC2⟩ | exact ⟨fun _ _ _ h => h, rfl, hC2⟩ | exact ⟨rfl, hC2⟩ | exact ⟨_, rfl, hC2⟩ | exact hC2
                      · simp at hq; subst hq
                        have g84 : act.tmps[84]?.getD undef = .slice (some ⟨bd', od', none⟩) d'.length cd' := hI.has 13 84 rfl (hall ⟨13, .data⟩ (by simp) rfl)
                        have g85 : act.tmps[85]?.getD undef = .int .i64 k := hI.has 14 85 rfl (hall ⟨14, .data⟩ (by simp) rfl)
                        have hC2 := hC.keep (i := 15) hI.len (by decide) (by decide)
                        clear hI hall hnot hcl hC hB
                        refine .inl ⟨wanted_none rfl, ?_⟩
                        unfold Oper.wp
                        go_simp
                        all_goals first | exact ⟨_, rfl, fun _ _ _ h => h, rfl, hC2⟩ | exact ⟨_, rfl, rfl, hC2⟩ | exact ⟨fun _ _ _ h => h, rfl, hC2⟩ | exact ⟨rfl, hC2⟩ | exact ⟨_, rfl, hC2⟩ | exact hC2
                      · simp at hq; subst hq
                        have g86 : act.tmps[86]?.getD undef = .pointer (some ⟨bd', od' + k, none⟩) := hI.has 15 86 rfl (hall ⟨15, .data⟩ (by simp) rfl)
                        have hC2 := hC.keep (i := 16) hI.len (by decide) (by decide)
                        clear hI hall hnot hcl hC hB
                        refine .inl ⟨wanted_none rfl, ?_⟩
                        unfold Oper.wp
                        go_simp
                        all_goals first | exact ⟨_, rfl, fun _ _ _ h => h, rfl, hC2⟩ | exact ⟨_, rfl, rfl, hC2⟩ | exact ⟨fun _ _ _ h => h, rfl, hC2⟩ | exact ⟨rfl, hC2⟩ | exact ⟨_, rfl, hC2⟩ | exact hC2
                      · simp at hq; subst hq
                        have g3 : act.tmps[3]?.getD undef = .pointer (some ⟨w.heap.size, 0, none⟩) := hI.kept 3 (by kernel_rfl)
                        have hC2 := hC.keep (i := 17) hI.len (by decide) (by decide)
                        clear hI hall hnot hcl hC hB
                        refine .inl ⟨wanted_none rfl, ?_⟩
                        unfold Oper.wp
                        go_simp
                        all_goals first | exact ⟨_, rfl, fun _ _ _ h => h, rfl, hC2⟩ | exact ⟨_, rfl, rfl, hC2⟩ | exact ⟨fun _ _ _ h => h, rfl, hC2⟩ | exact ⟨rfl, hC2⟩ | exact ⟨_, rfl, hC2⟩ | exact hC2
                      · simp at hq; subst hq
                        have g88 : act.tmps[88]?.getD undef = .pointer (some ⟨w.heap.size, 2, none⟩) := hI.has 17 88 rfl (hall ⟨17, .data⟩ (by simp) rfl)
                        have hC2 := hC.keep (i := 18) hI.len (by decide) (by decide)
                        clear hI hall hnot hcl hC hB
                        refine .inl ⟨wanted_none rfl, ?_⟩
                        unfold Oper.wp
                        go_simp
                        all_goals first | exact ⟨_, rfl, fun _ _ _ h => h, rfl, hC2⟩ | exact ⟨_, rfl, rfl, hC2⟩ | exact ⟨fun _ _ _ h => h, rfl, hC2⟩ | exact ⟨rfl, hC2⟩ | exact ⟨_, rfl, hC2⟩ | exact hC2
                      · simp at hq; subst hq
                        have g9 : act.tmps[9]?.getD undef = .int .i64 k := hI.kept 9 (by kernel_rfl)
                        have hC2 := hC.keep (i := 19) hI.len (by decide) (by decide)
                        clear hI hall hnot hcl hC hB
                        refine .inl ⟨wanted_none rfl, ?_⟩
                        unfold Oper.wp
                        go_simp
                        all_goals first | exact ⟨_, rfl, fun _ _ _ h => h, rfl, hC2⟩ | exact ⟨_, rfl, rfl, hC2⟩ | exact ⟨fun _ _ _ h => h, rfl, hC2⟩ | exact ⟨rfl, hC2⟩ | exact ⟨_, rfl, hC2⟩ | exact hC2
                      · simp at hq; subst hq
                        have g89 : act.tmps[89]?.getD undef = .slice (some ⟨bd, od, none⟩) d.length cd := hI.has 18 89 rfl (hall ⟨18, .data⟩ (by simp) rfl)
                        have g90 : act.tmps[90]?.getD undef = .int .i64 k := hI.has 19 90 rfl (hall ⟨19, .data⟩ (by simp) rfl)
                        have hC2 := hC.keep (i := 20) hI.len (by decide) (by decide)
                        clear hI hall hnot hcl hC hB
                        refine .inl ⟨wanted_none rfl, ?_⟩
                        unfold Oper.wp
                        go_simp
                        all_goals first | exact ⟨_, rfl, fun _ _ _ h => h, rfl, hC2⟩ | exact ⟨_, rfl, rfl, hC2⟩ | exact ⟨fun _ _ _ h => h, rfl, hC2⟩ | exact ⟨rfl, hC2⟩ | exact ⟨_, rfl, hC2⟩ | exact hC2
                      · simp at hq; subst hq
                        have g91 : act.tmps[91]?.getD undef = .pointer (some ⟨bd, od + k, none⟩) := hI.has 20 91 rfl (hall ⟨20, .data⟩ (by simp) rfl)
                        have hC2 := hC.keep (i := 21) hI.len (by decide) (by decide)
                        clear hI hall hnot hcl hC hB
                        refine .inl ⟨wanted_none rfl, ?_⟩
                        unfold Oper.wp
                        go_simp
                        all_goals first | exact ⟨_, rfl, fun _ _ _ h => h, rfl, hC2⟩ | exact ⟨_, rfl, rfl, hC2⟩ | exact ⟨fun _ _ _ h => h, rfl, hC2⟩ | exact ⟨rfl, hC2⟩ | exact ⟨_, rfl, hC2⟩ | exact hC2
                      · simp at hq; subst hq
                        have g87 : act.tmps[87]?.getD undef = .float .f32 q2 := hI.has 16 87 rfl (hall ⟨16, .data⟩ (by simp) rfl)
                        have g92 : act.tmps[92]?.getD undef = .float .f32 z := hI.has 21 92 rfl (hall ⟨21, .data⟩ (by simp) rfl)
                        have hC2 := hC.keep (i := 22) hI.len (by decide) (by decide)
                        clear hI hall hnot hcl hC hB
                        refine .inl ⟨wanted_none rfl, ?_⟩
                        unfold Oper.wp
                        go_simp
                        first | exact ⟨_, rfl, fun _ _ _ h => h, ⟨_, rfl, canonF rfl rfl⟩, hC2⟩ | exact ⟨_, rfl, ⟨_, rfl, canonF rfl rfl⟩, hC2⟩ | exact ⟨⟨_, rfl, canonF rfl rfl⟩, hC2⟩ | exact ⟨_, rfl, fun _ _ _ h => h, ⟨_, rfl, canonF rfl rfl⟩, hC2.draws _⟩ | exact ⟨_, rfl, ⟨_, rfl, canonF rfl rfl⟩, hC2.draws _⟩ | exact ⟨⟨_, rfl, canonF rfl rfl⟩, hC2.draws _⟩
                      · simp at hq; subst hq
                        have g82 : act.tmps[82]?.getD undef = .float .f32 s := hI.has 11 82 rfl (hall ⟨11, .data⟩ (by simp) rfl)
                        obtain ⟨r22, g93, h22a⟩ := hI.has 22 93 rfl (hall ⟨22, .data⟩ (by simp) rfl)
                        have hC2 := hC.keep (i := 23) hI.len (by decide) (by decide)
                        clear hI hall hnot hcl hC hB
                        refine .inl ⟨wanted_none rfl, ?_⟩
                        unfold Oper.wp
                        go_simp
                        first | exact ⟨_, rfl, fun _ _ _ h => h, ⟨_, rfl, canonF rfl h22a⟩, hC2⟩ | exact ⟨_, rfl, ⟨_, rfl, canonF rfl h22a⟩, hC2⟩ | exact ⟨⟨_, rfl, canonF rfl h22a⟩, hC2⟩ | exact ⟨_, rfl, fun _ _ _ h => h, ⟨_, rfl, canonF rfl h22a⟩, hC2.draws _⟩ | exact ⟨_, rfl, ⟨_, rfl, canonF rfl h22a⟩, hC2.draws _⟩ | exact ⟨⟨_, rfl, canonF rfl h22a⟩, hC2.draws _⟩
                      · simp at hq; subst hq
                        have g81 : act.tmps[81]?.getD undef = .float .f32 z := hI.has 10 81 rfl (hall ⟨10, .data⟩ (by simp) rfl)
                        obtain ⟨r23, g94, h23a⟩ := hI.has 23 94 rfl (hall ⟨23, .data⟩ (by simp) rfl)
                        have hC2 := hC.keep (i := 24) hI.len (by decide) (by decide)
                        clear hI hall hnot hcl hC hB
                        refine .inl ⟨wanted_none rfl, ?_⟩
                        unfold Oper.wp
                        go_simp
                        first | exact ⟨_, rfl, fun _ _ _ h => h, ⟨_, rfl, canonF rfl h23a⟩, hC2⟩ | exact ⟨_, rfl, ⟨_, rfl, canonF rfl h23a⟩, hC2⟩ | exact ⟨⟨_, rfl, canonF rfl h23a⟩, hC2⟩ | exact ⟨_, rfl, fun _ _ _ h => h, ⟨_, rfl, canonF rfl h23a⟩, hC2.draws _⟩ | exact ⟨_, rfl, ⟨_, rfl, canonF rfl h23a⟩, hC2.draws _⟩ | exact ⟨⟨_, rfl, canonF rfl h23a⟩, hC2.draws _⟩
                      · simp at hq; subst hq
                        have g8 : act.tmps[8]?.getD undef = .pointer (some ⟨w2.heap.size, 0, none⟩) := hI.kept 8 (by kernel_rfl)
                        have g75 : act.tmps[75]?.getD undef = .float .f32 x := hI.has 4 75 rfl (hall ⟨4, .data⟩ (by simp) rfl)
                        have g76 : act.tmps[76]?.getD undef = .float .f32 r10 := hI.has 5 76 rfl (hall ⟨5, .data⟩ (by simp) rfl)
                        obtain ⟨r24, g95, h24a⟩ := hI.has 24 95 rfl (hall ⟨24, .data⟩ (by simp) rfl)
                        have hlen := hI.len
                        have hC1 := hC.ahead hnot
                        clear hI hall hnot hcl hC hB
                        refine .inl ⟨wanted_none rfl, ?_⟩
                        unfold Oper.wp
                        go_simp
                        refine (s_l02Put _ _ _ x' y' z' _ _ _ _ w1 w3 hC1 HLN.out HX1.out.symm H10.out ((h24a : canon .f32 _ = _).trans HZ1.out.symm)).mono ?_
                        rintro e w4 ⟨rfl, hQ⟩
                        first | exact ⟨_, rfl, fun _ _ _ h => h, rfl, CF.call hQ hlen (by decide)⟩ | exact ⟨_, rfl, rfl, CF.call hQ hlen (by decide)⟩ | exact ⟨rfl, CF.call hQ hlen (by decide)⟩ | exact CF.call hQ hlen (by decide)
                      · simp at hq
                    case hend =>
                      intro listed act w3 hI hall
                      have hC := hI.cls
                      have hB := hC.below
                      obtain ⟨-, ⟨kx0, kx1, kx2⟩, -, -, -⟩ := L0.out.below hB
                      obtain ⟨-, ⟨ky0, ky1, ky2⟩, -, -, -⟩ := L0'.out.below hB
                      have hca := HCA.out _ hB
                      have hcd := HCD.out _ hB
                      have hcd2 := HCD'.out _ hB
                      have hQ := (hI.cls).done (hall 25 (by decide))
                      have g10 := hI.kept 10 (by kernel_rfl)
                      conv at g10 => rhs; whnf
                      have g9 := hI.kept 9 (by kernel_rfl)
                      conv at g9 => rhs; whnf
                      have g0 := hI.kept 0 (by kernel_rfl)
                      conv at g0 => rhs; whnf
                      have g1 := hI.kept 1 (by kernel_rfl)
                      conv at g1 => rhs; whnf
                      have g2 := hI.kept 2 (by kernel_rfl)
                      conv at g2 => rhs; whnf
                      have g3 := hI.kept 3 (by kernel_rfl)
                      conv at g3 => rhs; whnf
                      have g4 := hI.kept 4 (by kernel_rfl)
                      conv at g4 => rhs; whnf
                      have g5 : act.tmps[5]?.getD undef = undef := hI.kept 5 (by kernel_rfl)
                      have g6 := hI.kept 6 (by kernel_rfl)
                      conv at g6 => rhs; whnf
                      have g8 := hI.kept 8 (by kernel_rfl)
                      conv at g8 => rhs; whnf
                      have g11 := hI.kept 11 (by kernel_rfl)
                      conv at g11 => rhs; whnf
                      have g12 := hI.kept 12 (by kernel_rfl)
                      conv at g12 => rhs; whnf
                      have g13 := hI.kept 13 (by kernel_rfl)
                      conv at g13 => rhs; whnf
                      have g14 := hI.kept 14 (by kernel_rfl)
                      conv at g14 => rhs; whnf
                      have g15 := hI.kept 15 (by kernel_rfl)
                      conv at g15 => rhs; whnf
                      have g16 := hI.kept 16 (by kernel_rfl)
                      conv at g16 => rhs; whnf
                      have g17 := hI.kept 17 (by kernel_rfl)
                      conv at g17 => rhs; whnf
                      have g18 := hI.kept 18 (by kernel_rfl)
                      conv at g18 => rhs; whnf
                      have g19 := hI.kept 19 (by kernel_rfl)
                      conv at g19 => rhs; whnf
                      have g20 := hI.kept 20 (by kernel_rfl)
                      conv at g20 => rhs; whnf
                      have g21 := hI.kept 21 (by kernel_rfl)
                      conv at g21 => rhs; whnf
                      have g22 := hI.kept 22 (by kernel_rfl)
                      conv at g22 => rhs; whnf
                      have g23 := hI.kept 23 (by kernel_rfl)
                      conv at g23 => rhs; whnf
                      have g24 := hI.kept 24 (by kernel_rfl)
                      conv at g24 => rhs; whnf
                      have g25 := hI.kept 25 (by kernel_rfl)
                      conv at g25 => rhs; whnf
                      have g26 := hI.kept 26 (by kernel_rfl)
                      conv at g26 => rhs; whnf
                      have g27 := hI.kept 27 (by kernel_rfl)
                      conv at g27 => rhs; whnf
                      have g28 := hI.kept 28 (by kernel_rfl)
                      conv at g28 => rhs; whnf
                      have g29 := hI.kept 29 (by kernel_rfl)
                      conv at g29 => rhs; whnf
                      have g30 := hI.kept 30 (by kernel_rfl)
                      conv at g30 => rhs; whnf
                      have g32 := hI.kept 32 (by kernel_rfl)
                      conv at g32 => rhs; whnf
                      have g97 : act.tmps[97]?.getD undef = undef := hI.kept 97 (by kernel_rfl)
                      have g98 : act.tmps[98]?.getD undef = undef := hI.kept 98 (by kernel_rfl)
                      have g99 : act.tmps[99]?.getD undef = undef := hI.kept 99 (by kernel_rfl)
                      have g100 : act.tmps[100]?.getD undef = undef := hI.kept 100 (by kernel_rfl)
                      have g31 : act.tmps[31]?.getD undef = undef := hI.kept 31 (by kernel_rfl)
                      have hsz : act.tmps.size = 101 := hI.size.trans (by kernel_rfl)
                      have hd := hI.defers
                      clear hI hall
                      obtain ⟨tt, dd⟩ := act
                      simp only at g0 g1 g2 g3 g4 g5 g6 g8 g9 g10 g11 g12 g13 g14 g15 g16 g17 g18 g19 g20 g21 g22 g23 g24 g25 g26 g27 g28 g29 g30 g31 g32 g97 g98 g99 g100 hsz hd
                      subst hd
                      have hl : tt = #[tt[0]?.getD undef, tt[1]?.getD undef, tt[2]?.getD undef, tt[3]?.getD undef, tt[4]?.getD undef, tt[5]?.getD undef, tt[6]?.getD undef, tt[7]?.getD undef, tt[8]?.getD undef, tt[9]?.getD undef, tt[10]?.getD undef, tt[11]?.getD undef, tt[12]?.getD undef, tt[13]?.getD undef, tt[14]?.getD undef, tt[15]?.getD undef, tt[16]?.getD undef, tt[17]?.getD undef, tt[18]?.getD undef, tt[19]?.getD undef, tt[20]?.getD undef, tt[21]?.getD undef, tt[22]?.getD undef, tt[23]?.getD undef, tt[24]?.getD undef, tt[25]?.getD undef, tt[26]?.getD undef, tt[27]?.getD undef, tt[28]?.getD undef, tt[29]?.getD undef, tt[30]?.getD undef, tt[31]?.getD undef, tt[32]?.getD undef, tt[33]?.getD undef, tt[34]?.getD undef, tt[35]?.getD undef, tt[36]?.getD undef, tt[37]?.getD undef, tt[38]?.getD undef, tt[39]?.getD undef, tt[40]?.getD undef, tt[41]?.getD undef, tt[42]?.getD undef, tt[43]?.getD undef, tt[44]?.getD undef, tt[45]?.getD undef, tt[46]?.getD undef, tt[47]?.getD undef, tt[48]?.getD undef, tt[49]?.getD undef, tt[50]?.getD undef, tt[51]?.getD undef, tt[52]?.getD undef, tt[53]?.getD undef, tt[54]?.getD undef, tt[55]?.getD undef, tt[56]?.getD undef, tt[57]?.getD undef, tt[58]?.getD undef, tt[59]?.getD undef, tt[60]?.getD undef, tt[61]?.getD undef, tt[62]?.getD undef, tt[63]?.getD undef, tt[64]?.getD undef, tt[65]?.getD undef, tt[66]?.getD undef, tt[67]?.getD undef, tt[68]?.getD undef, tt[69]?.getD undef, tt[70]?.getD undef, tt[71]?.getD undef, tt[72]?.getD undef, tt[73]?.getD undef, tt[74]?.getD undef, tt[75]?.getD undef, tt[76]?.getD undef, tt[77]?.getD undef, tt[78]?.getD undef, tt[79]?.getD undef, tt[80]?.getD undef, tt[81]?.getD undef, tt[82]?.getD undef, tt[83]?.getD undef, tt[84]?.getD undef, tt[85]?.getD undef, tt[86]?.getD undef, tt[87]?.getD undef, tt[88]?.getD undef, tt[89]?.getD undef, tt[90]?.getD undef, tt[91]?.getD undef, tt[92]?.getD undef, tt[93]?.getD undef, tt[94]?.getD undef, tt[95]?.getD undef, tt[96]?.getD undef, tt[97]?.getD undef, tt[98]?.getD undef, tt[99]?.getD undef, tt[100]?.getD undef] := (arr_lit hsz).trans rfl
                      rw [g0, g1, g2, g3, g4, g5, g6, g8, g9, g10, g11, g12, g13, g14, g15, g16, g17, g18, g19, g20, g21, g22, g23, g24, g25, g26, g27, g28, g29, g30, g31, g32, g97, g98, g99, g100] at hl
                      clear g0 g1 g2 g3 g4 g5 g6 g8 g9 g10 g11 g12 g13 g14 g15 g16 g17 g18 g19 g20 g21 g22 g23 g24 g25 g26 g27 g28 g29 g30 g31 g32 g97 g98 g99 g100 hsz
                      generalize tt[7]?.getD undef = y7 at hl
                      generalize tt[33]?.getD undef = y33 at hl
                      generalize tt[34]?.getD undef = y34 at hl
                      generalize tt[35]?.getD undef = y35 at hl
                      generalize tt[36]?.getD undef = y36 at hl
                      generalize tt[37]?.getD undef = y37 at hl
                      generalize tt[38]?.getD undef = y38 at hl
                      generalize tt[39]?.getD undef = y39 at hl
                      generalize tt[40]?.getD undef = y40 at hl
                      generalize tt[41]?.getD undef = y41 at hl
                      generalize tt[42]?.getD undef = y42 at hl
                      generalize tt[43]?.getD undef = y43 at hl
                      generalize tt[44]?.getD undef = y44 at hl
                      generalize tt[45]?.getD undef = y45 at hl
                      generalize tt[46]?.getD undef = y46 at hl
                      generalize tt[47]?.getD undef = y47 at hl
                      generalize tt[48]?.getD undef = y48 at hl
                      generalize tt[49]?.getD undef = y49 at hl
                      generalize tt[50]?.getD undef = y50 at hl
                      generalize tt[51]?.getD undef = y51 at hl
                      generalize tt[52]?.getD undef = y52 at hl
                      generalize tt[53]?.getD undef = y53 at hl
                      generalize tt[54]?.getD undef = y54 at hl
                      generalize tt[55]?.getD undef = y55 at hl
                      generalize tt[56]?.getD undef = y56 at hl
                      generalize tt[57]?.getD undef = y57 at hl
                      generalize tt[58]?.getD undef = y58 at hl
                      generalize tt[59]?.getD undef = y59 at hl
                      generalize tt[60]?.getD undef = y60 at hl
                      generalize tt[61]?.getD undef = y61 at hl
                      generalize tt[62]?.getD undef = y62 at hl
                      generalize tt[63]?.getD undef = y63 at hl
                      generalize tt[64]?.getD undef = y64 at hl
                      generalize tt[65]?.getD undef = y65 at hl
                      generalize tt[66]?.getD undef = y66 at hl
                      generalize tt[67]?.getD undef = y67 at hl
                      generalize tt[68]?.getD undef = y68 at hl
                      generalize tt[69]?.getD undef = y69 at hl
                      generalize tt[70]?.getD undef = y70 at hl
                      generalize tt[71]?.getD undef = y71 at hl
                      generalize tt[72]?.getD undef = y72 at hl
                      generalize tt[73]?.getD undef = y73 at hl
                      generalize tt[74]?.getD undef = y74 at hl
                      generalize tt[75]?.getD undef = y75 at hl
                      generalize tt[76]?.getD undef = y76 at hl
                      generalize tt[77]?.getD undef = y77 at hl
                      generalize tt[78]?.getD undef = y78 at hl
                      generalize tt[79]?.getD undef = y79 at hl
                      generalize tt[80]?.getD undef = y80 at hl
                      generalize tt[81]?.getD undef = y81 at hl
                      generalize tt[82]?.getD undef = y82 at hl
                      generalize tt[83]?.getD undef = y83 at hl
                      generalize tt[84]?.getD undef = y84 at hl
                      generalize tt[85]?.getD undef = y85 at hl
                      generalize tt[86]?.getD undef = y86 at hl
                      generalize tt[87]?.getD undef = y87 at hl
                      generalize tt[88]?.getD undef = y88 at hl
                      generalize tt[89]?.getD undef = y89 at hl
                      generalize tt[90]?.getD undef = y90 at hl
                      generalize tt[91]?.getD undef = y91 at hl
                      generalize tt[92]?.getD undef = y92 at hl
                      generalize tt[93]?.getD undef = y93 at hl
                      generalize tt[94]?.getD undef = y94 at hl
                      generalize tt[95]?.getD undef = y95 at hl
                      generalize tt[96]?.getD undef = y96 at hl
                      subst hl
                      have HQ2 := Lib.hid hQ
                      clear hQ
                      go_wp2
                      go_roundw
                      case rel => exact ⟨k + 1, by omega, by go_num, HE2, Lib.hid (by rw [HTX.out, HTY.out, HTZ.out]; exact HQ2.out)⟩
                      case measure => simp [intOf]; omega
            · have hkk : k = a.length := by omega
              subst hkk
              rw [List.take_length, List.take_of_length_le (by rw [HYA.out.2, HS3.out]; omega), List.take_of_length_le (by rw [HZA.out.2, HS4.out]; omega)] at HQ
              have HO := Lib.hid (HOY.out HC.out HEK.out)
              have HXL : Hid (a.length = a.length) := rfl
              have HYL : Hid (Y.length = a.length) := Lib.hid (HYA.out.2.trans HS3.out)
              have HZL : Hid (Z.length = a.length) := Lib.hid (HZA.out.2.trans HS4.out)
              clear k0 k1 k2 k0' k1' k2'
              obtain ⟨v1, v2, v3, xs, ys, zs, hF, c1, c2, c3⟩ := HQ.out
              have hnx : xs ≠ [] := by intro e; have h1 := congrArg List.length e; have h2 := c1.1; have h3 := HXL.out; simp only [List.length_nil] at h1; omega
              have hny : ys ≠ [] := by intro e; have h1 := congrArg List.length e; have h2 := c2.1; have h3 := HYL.out; simp only [List.length_nil] at h1; omega
              have hnz : zs ≠ [] := by intro e; have h1 := congrArg List.length e; have h2 := c3.1; have h3 := HZL.out; simp only [List.length_nil] at h1; omega
              obtain ⟨R1, R2, R3, d1, d2, d3, g1, g2, g3, rfl, rfl, rfl, hown⟩ := hF.g.own hnx hny hnz
              have BL : Hid (BlkL wr w2.heap.size [.slice R1 xs.length d1, .slice R2 ys.length d2, .slice R3 zs.length d3]) := Lib.hid hF.blk
              have BW : Hid (Below w1.heap.size w1 wr) := Lib.hid hF.g.below
              have HOWN := Lib.hid hown
              have HX : Hid (validP xs ys zs = validP a Y Z ∧ (validP a Y Z = true → xs = a ∧ ys = Y ∧ zs = Z)) := Lib.hid ⟨validP_CL c1 c2 c3, validP_eq c1 c2 c3⟩
              have HFW : Hid (Few xs ys zs) := Lib.hid (by have := HXL.out; have := HYL.out; have := HZL.out; unfold Few; rw [c1.1, c2.1, c3.1]; omega)
              clear hF hown c1 c2 c3 hnx hny hnz HQ
              have BR : Hid (Below w.heap.size w wr) := Lib.hid (below_of B1.out B1.out.size BW.out)
              have LRR : Hid (BlkL wr (w.heap.size + 2) [.slice none 0 0, .slice none 0 0, .slice none 0 0]) := Lib.hid (LR.out.below BW.out)
              obtain ⟨o0, o1, o2⟩ := BL.out.three
              obtain ⟨-, ⟨k0, k1, k2⟩, -, -, -⟩ := L0.out.below BW.out
              cases v : validP xs ys zs
              · have HN : Hid (O = false) := Lib.hid (by rw [HO.out, ← HX.out.1, v])
                have HE := Lib.hid (s_GiveP_no R1 R2 R3 d1 d2 d3 xs ys zs wr HOWN.out.pf HFW.out v)
                clear v
                go_wp2_with fail
                refine HE.out.mono ?_
                rintro e w6 ⟨rfl, b6⟩
                have B6 : Hid (Below w.heap.size w w6) := Lib.hid (below_of BR.out BR.out.size b6)
                have LR6 : Hid (BlkL w6 (w.heap.size + 2) [.slice none 0 0, .slice none 0 0, .slice none 0 0]) := Lib.hid (LRR.out.below b6)
                clear b6 o0 o1 o2 k0 k1 k2
                have p0 := (LR6.out.2 0 _ rfl).1
                have q0 := (LR6.out.2 0 _ rfl).2
                have p1 := (LR6.out.2 1 _ rfl).1
                have q1 := (LR6.out.2 1 _ rfl).2
                have p2 := (LR6.out.2 2 _ rfl).1
                have q2 := (LR6.out.2 2 _ rfl).2
                go_wp2
                refine bodyPost_ret (v := .tuple #[.agg #[.slice none 0 0, .slice none 0 0, .slice none 0 0], .bool false]) ?_ rfl ?_
                · simp [results, Try.results30, go_sem, p0, p1, p2]
                · rw [HN.out]
                  exact ⟨none, none, none, 0, 0, 0, 0, 1, 2, rfl, OwnQ.none _ _, (((B6.out).setCell (p := ⟨w.heap.size + 2, 0, none⟩) (by show w.heap.size ≤ w.heap.size + 2; omega) _).setCell (p := ⟨w.heap.size + 2, 1, none⟩) (by show w.heap.size ≤ w.heap.size + 2; omega) _).setCell (p := ⟨w.heap.size + 2, 2, none⟩) (by show w.heap.size ≤ w.heap.size + 2; omega) _⟩
              · have HN : Hid (O = true) := Lib.hid (by rw [HO.out, ← HX.out.1, v])
                have HE := Lib.hid (s_GiveP_yes R1 R2 R3 d1 d2 d3 xs ys zs wr HOWN.out.pf HFW.out v)
                obtain ⟨rfl, rfl, rfl⟩ := HX.out.2 (by rw [← HX.out.1, v])
                clear v
                go_wp2_with fail
                refine HE.out.mono ?_
                rintro e w6 ⟨rfl, b6⟩
                have B6 : Hid (Below w.heap.size w w6) := Lib.hid (below_of BR.out BR.out.size b6)
                have LR6 : Hid (BlkL w6 (w.heap.size + 2) [.slice none 0 0, .slice none 0 0, .slice none 0 0]) := Lib.hid (LRR.out.below b6)
                have HO6 := Lib.hid (HOWN.out.below b6)
                clear b6 o0 o1 o2 k0 k1 k2
                have p0 := (LR6.out.2 0 _ rfl).1
                have q0 := (LR6.out.2 0 _ rfl).2
                have p1 := (LR6.out.2 1 _ rfl).1
                have q1 := (LR6.out.2 1 _ rfl).2
                have p2 := (LR6.out.2 2 _ rfl).1
                have q2 := (LR6.out.2 2 _ rfl).2
                go_wp2
                refine bodyPost_ret (v := .tuple #[.agg #[.slice R1 xs.length d1, .slice R2 ys.length d2, .slice R3 zs.length d3], .bool true]) ?_ rfl ?_
                · simp [results, Try.results30, go_sem, p0, p1, p2]
                · rw [HN.out]
                  have z1 := Z1.out
                  exact ⟨R1, R2, R3, d1, d2, d3, g1, g2, g3, rfl, ((((HO6.out).setC (p := ⟨w.heap.size + 2, 0, none⟩) (by show w.heap.size + 2 < _; omega) _).setC (p := ⟨w.heap.size + 2, 1, none⟩) (by show w.heap.size + 2 < _; omega) _).setC (p := ⟨w.heap.size + 2, 2, none⟩) (by show w.heap.size + 2 < _; omega) _).base (by omega), (((B6.out).setCell (p := ⟨w.heap.size + 2, 0, none⟩) (by show w.heap.size ≤ w.heap.size + 2; omega) _).setCell (p := ⟨w.heap.size + 2, 1, none⟩) (by show w.heap.size ≤ w.heap.size + 2; omega) _).setCell (p := ⟨w.heap.size + 2, 2, none⟩) (by show w.heap.size ≤ w.heap.size + 2; omega) _⟩
end Go.Proofs.Ytplofbkollhjpaa
