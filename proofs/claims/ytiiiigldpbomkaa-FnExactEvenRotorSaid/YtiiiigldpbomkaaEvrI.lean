/- EvenRotor: the program. No statement is proved here. -/
import Derived.Test.YtiiiigldpbomkaaEvrM
import Derived.Test.YtiiiigldpbomkaaRotL
namespace Go.Proofs.Ytiiiigldpbomkaa
open Go Go.RowKit
theorem Own.made3 (w : World) (n : Nat) (E : TypeId) : Own (w.alloc (.cells (madeCells #[.float .f32 0, .float .f32 0, .float .f32 0] (n * 3)) E)) w.heap.size (List.replicate (n * 3) 0) := by
  refine ⟨by simp, fun j hj => ⟨?_, ?_⟩⟩
  · rw [List.length_replicate] at hj
    rw [World.cell?_alloc_at (w := w) (hn := rfl)]
    have : j % 3 = 0 ∨ j % 3 = 1 ∨ j % 3 = 2 := by omega
    rcases this with h | h | h <;> simp [madeCells, hj, h, List.getD]
  · rw [World.frozen?_alloc_at (w := w) (hn := rfl)]
theorem setSt_0 {s : List Nat} {k x y z : Nat} (h : k * 3 + 2 < s.length) : (setSt s k x y z).getD (k * 3) 0 = x := by
  unfold setSt
  rw [getD_setL (by simp; omega), if_neg (by omega), getD_setL (by simp; omega), if_neg (by omega), getD_setL (by omega), if_pos rfl]
theorem setSt_1 {s : List Nat} {k x y z : Nat} (h : k * 3 + 2 < s.length) : (setSt s k x y z).getD (k * 3 + 1) 0 = y := by
  unfold setSt
  rw [getD_setL (by simp; omega), if_neg (by omega), getD_setL (by simp; omega), if_pos rfl]
theorem setSt_2 {s : List Nat} {k x y z : Nat} (h : k * 3 + 2 < s.length) : (setSt s k x y z).getD (k * 3 + 2) 0 = z := by
  unfold setSt
  rw [getD_setL (by simp; omega), if_pos rfl]
theorem setSt_o {s : List Nat} {k x y z j : Nat} (h : k * 3 + 2 < s.length) (h0 : j ≠ k * 3) (h1 : j ≠ k * 3 + 1) (h2 : j ≠ k * 3 + 2) : (setSt s k x y z).getD j 0 = s.getD j 0 := by
  unfold setSt
  rw [getD_setL (by simp; omega), if_neg h2, getD_setL (by simp; omega), if_neg h1, getD_setL (by omega), if_neg h0]
theorem i_ValidRotor_p (A L D S : Option Addr) (ca cl cd n cs : Nat) (c : Int) (hub tip : Nat) (a l d : List Nat) (w : World) (h : Pf w A L D a l d) (hn : Few a l d) (v : validP a l d = false) :
    Calls Try.prog 84 #[.agg #[.slice A a.length ca, .slice L l.length cl, .slice D d.length cd, .slice S n cs, .int .i64 c, .float .f32 hub, .float .f32 tip]] w fun e w' => e = .returned (.bool false) ∧ Below w.heap.size w w' := by
  have HP := Lib.hid h; clear h
  have HN := Lib.hid hn; clear hn
  have V := Lib.hid v; clear v
  have HB : ∀ o1, Hid (Below w.heap.size w (w.alloc o1)) := fun _ => Lib.hid ((Below.refl _ _).alloc (Nat.le_refl _) _)
  go_enter Try.func84, Try.ntmps84
  go_wp2_with fail
  refine (i_ValidProfile A L D ca cl cd a l d _ (HP.out.below (HB _).out) HN.out).mono ?_
  rintro e w1 ⟨rfl, b1⟩
  rw [V.out]
  have B1 : Hid (Below w.heap.size w w1) := Lib.hid (below_of (HB _).out (by simp) b1)
  clear b1
  go_wp2
  go_ret
  exact ⟨rfl, B1.out⟩
set_option maxHeartbeats 8000000 in
theorem i_withOwn_p (A L D S : Option Addr) (ca cl cd n cs : Nat) (c : Int) (hub tip : Nat) (a l d : List Nat) (w : World) (h : Pf w A L D a l d) (hn : Few a l d) (v : validP a l d = false) :
    Calls Try.prog 75 #[.agg #[.slice A a.length ca, .slice L l.length cl, .slice D d.length cd, .slice S n cs, .int .i64 c, .float .f32 hub, .float .f32 tip]] w fun e w' => e = .returned (.tuple #[.agg #[.slice none 0 0, .slice none 0 0, .slice none 0 0, .slice none 0 0, .int .i64 0, .float .f32 0, .float .f32 0], .bool false]) ∧ Below w.heap.size w w' := by
  obtain ⟨w0, hw0⟩ : ∃ q, q = (w.alloc (.cells #[.slice A a.length ca, .slice L l.length cl, .slice D d.length cd, .slice S n cs, .int .i64 c, .float .f32 hub, .float .f32 tip] 30)).alloc (.cells #[.slice none 0 0, .slice none 0 0, .slice none 0 0, .slice none 0 0, .int .i64 0, .float .f32 0, .float .f32 0] 30) := ⟨_, rfl⟩
  have B0 : Hid (Below w.heap.size w w0) := Lib.hid (by rw [hw0]; exact ((Below.refl _ _).alloc (Nat.le_refl _) _).alloc (by simp) _)
  have K0 : Hid (BlkL w0 w.heap.size [.slice A a.length ca, .slice L l.length cl, .slice D d.length cd, .slice S n cs, .int .i64 c, .float .f32 hub, .float .f32 tip]) := Lib.hid (by rw [hw0]; exact (blkL_at w #[.slice A a.length ca, .slice L l.length cl, .slice D d.length cd, .slice S n cs, .int .i64 c, .float .f32 hub, .float .f32 tip] _ rfl).alloc _)
  have KR : Hid (BlkL w0 (w.heap.size + 1) [.slice none 0 0, .slice none 0 0, .slice none 0 0, .slice none 0 0, .int .i64 0, .float .f32 0, .float .f32 0]) := Lib.hid (by rw [hw0]; exact blkL_at (w.alloc _) #[.slice none 0 0, .slice none 0 0, .slice none 0 0, .slice none 0 0, .int .i64 0, .float .f32 0, .float .f32 0] _ (by simp))
  have HH := Lib.hid (h.below B0.out)
  have HN := Lib.hid hn; clear hn h
  have V := Lib.hid v; clear v
  obtain ⟨m0, m1, m2, m3, m4, m5, m6⟩ := K0.out.sevenT
  go_enter Try.func75, Try.ntmps75
  go_wp2_with fail
  rw [← hw0]
  clear hw0
  go_wp2_with fail
  refine (i_ValidRotor_p A L D S ca cl cd n cs c hub tip a l d _ HH.out HN.out V.out).mono ?_
  rintro e w1 ⟨rfl, b⟩
  clear m0 m1 m2 m3 m4 m5 m6
  have LR : Hid (BlkL w1 (w.heap.size + 1) [.slice none 0 0, .slice none 0 0, .slice none 0 0, .slice none 0 0, .int .i64 0, .float .f32 0, .float .f32 0]) := Lib.hid (KR.out.below b)
  have B1 : Hid (Below w.heap.size w w1) := Lib.hid (below_of B0.out B0.out.size b)
  clear b K0 KR B0 HH
  have p0 := (LR.out.2 0 _ rfl).1
  have q0 := (LR.out.2 0 _ rfl).2
  have p1 := (LR.out.2 1 _ rfl).1
  have q1 := (LR.out.2 1 _ rfl).2
  have p2 := (LR.out.2 2 _ rfl).1
  have q2 := (LR.out.2 2 _ rfl).2
  have p3 := (LR.out.2 3 _ rfl).1
  have q3 := (LR.out.2 3 _ rfl).2
  have p4 := (LR.out.2 4 _ rfl).1
  have q4 := (LR.out.2 4 _ rfl).2
  have p5 := (LR.out.2 5 _ rfl).1
  have q5 := (LR.out.2 5 _ rfl).2
  have p6 := (LR.out.2 6 _ rfl).1
  have q6 := (LR.out.2 6 _ rfl).2
  go_wp2
  refine bodyPost_ret (v := .tuple #[.agg #[.slice none 0 0, .slice none 0 0, .slice none 0 0, .slice none 0 0, .int .i64 0, .float .f32 0, .float .f32 0], .bool false]) ?_ rfl ⟨rfl, ?_⟩
  · simp [results, Try.results75, go_sem, p0, p1, p2, p3, p4, p5, p6]
  · exact (((((((B1.out).setCell (p := ⟨w.heap.size + 1, 0, none⟩) (by show w.heap.size ≤ w.heap.size + 1; omega) _).setCell (p := ⟨w.heap.size + 1, 1, none⟩) (by show w.heap.size ≤ w.heap.size + 1; omega) _).setCell (p := ⟨w.heap.size + 1, 2, none⟩) (by show w.heap.size ≤ w.heap.size + 1; omega) _).setCell (p := ⟨w.heap.size + 1, 3, none⟩) (by show w.heap.size ≤ w.heap.size + 1; omega) _).setCell (p := ⟨w.heap.size + 1, 4, none⟩) (by show w.heap.size ≤ w.heap.size + 1; omega) _).setCell (p := ⟨w.heap.size + 1, 5, none⟩) (by show w.heap.size ≤ w.heap.size + 1; omega) _).setCell (p := ⟨w.heap.size + 1, 6, none⟩) (by show w.heap.size ≤ w.heap.size + 1; omega) _
set_option maxHeartbeats 16000000 in
set_option maxRecDepth 100000 in
theorem i_EvenRotor (A L D : Option Addr) (ca cl cd : Nat) (a l d : List Nat) (c i : Int) (hub tip ch tu : Nat) (w : World) (h : Pf w A L D a l d) (hn : Few a l d) :
    Calls Try.prog 18 #[.agg #[.slice A a.length ca, .slice L l.length cl, .slice D d.length cd], .int .i64 c, .int .i64 i, .float .f32 hub, .float .f32 tip, .float .f32 ch, .float .f32 tu] w fun e w' => ∃ (R1 R2 R3 R4 : Option Addr) (c1 c2 c3 c4 g1 g2 g3 g4 : Nat), e = .returned (.tuple #[.agg #[.slice R1 (gLp (evO a l d c i hub tip ch tu) a).length c1, .slice R2 (gLp (evO a l d c i hub tip ch tu) l).length c2, .slice R3 (gLp (evO a l d c i hub tip ch tu) d).length c3, .slice R4 (gN (evO a l d c i hub tip ch tu) i.toNat) c4, .int .i64 (gC (evO a l d c i hub tip ch tu) c), .float .f32 (gN (evO a l d c i hub tip ch tu) hub), .float .f32 (gN (evO a l d c i hub tip ch tu) tip)], .bool (evO a l d c i hub tip ch tu)]) ∧ OwnT w' w.heap.size R1 R2 R3 R4 g1 g2 g3 g4 (gLp (evO a l d c i hub tip ch tu) a) (gLp (evO a l d c i hub tip ch tu) l) (gLp (evO a l d c i hub tip ch tu) d) (gLp (evO a l d c i hub tip ch tu) (evS i.toNat hub tip ch tu)) ∧ Below w.heap.size w w' := by
  have HP := Lib.hid h; clear h
  have HO : Hid (evO a l d c i hub tip ch tu = validR a l d (evS i.toNat hub tip ch tu) i.toNat c hub tip) := Lib.hid rfl
  have HON : Hid (validP a l d = false → evO a l d c i hub tip ch tu = false) := Lib.hid evO_p
  have HOZ : Hid (¬ (2 ≤ i ∧ i ≤ 12) → evO a l d c i hub tip ch tu = false) := Lib.hid evO_z
  generalize evO a l d c i hub tip ch tu = O at HO HON HOZ ⊢
  obtain ⟨n, HNI⟩ : ∃ n, Hid (n = i.toNat) := ⟨_, rfl⟩
  rw [← HNI.out] at HO ⊢
  have HSE : Hid ((evS n hub tip ch tu).length = n * 3 ∧ ∀ k, k < n → (evS n hub tip ch tu).getD (k * 3) 0 = evR n hub tip k ∧ (evS n hub tip ch tu).getD (k * 3 + 1) 0 = ch ∧ (evS n hub tip ch tu).getD (k * 3 + 2) 0 = tu) := Lib.hid ⟨evS_length, fun k hk => ⟨evS_0 hk, evS_1 hk, evS_2 hk⟩⟩
  generalize evS n hub tip ch tu = S' at HO HSE ⊢
  obtain ⟨w0, hw0⟩ : ∃ q, q = (w.alloc (.cells #[.slice A a.length ca, .slice L l.length cl, .slice D d.length cd] 27)).alloc (.cells #[.slice none 0 0, .slice none 0 0, .slice none 0 0, .slice none 0 0, .int .i64 0, .float .f32 0, .float .f32 0] 30) := ⟨_, rfl⟩
  have B0 : Hid (Below w.heap.size w w0) := Lib.hid (by rw [hw0]; exact ((Below.refl _ _).alloc (Nat.le_refl _) _).alloc (by simp) _)
  have K0 : Hid (BlkL w0 w.heap.size [.slice A a.length ca, .slice L l.length cl, .slice D d.length cd]) := Lib.hid (by rw [hw0]; exact (blkL_at w #[.slice A a.length ca, .slice L l.length cl, .slice D d.length cd] _ rfl).alloc _)
  have KR : Hid (BlkL w0 (w.heap.size + 1) [.slice none 0 0, .slice none 0 0, .slice none 0 0, .slice none 0 0, .int .i64 0, .float .f32 0, .float .f32 0]) := Lib.hid (by rw [hw0]; exact blkL_at (w.alloc _) #[.slice none 0 0, .slice none 0 0, .slice none 0 0, .slice none 0 0, .int .i64 0, .float .f32 0, .float .f32 0] _ (by simp))
  have Z0 : Hid (w0.heap.size = w.heap.size + 2) := Lib.hid (by rw [hw0]; simp)
  by_cases hc : 2 ≤ i ∧ i ≤ 12
  · have hin : i = (n : Int) := by have := HNI.out; omega
    have hnb : 2 ≤ n ∧ n ≤ 12 := by omega
    clear HNI HOZ hc
    subst hin
    have HNW := Lib.hid hn
    clear hn
    obtain ⟨bk, hbk⟩ : ∃ q, q = w0.heap.size := ⟨_, rfl⟩
    obtain ⟨w1, hw1⟩ : ∃ q, q = w0.alloc (.cells (madeCells #[.float .f32 0, .float .f32 0, .float .f32 0] (n * 3)) 47) := ⟨_, rfl⟩
    have hmk : (Instr.makeSlice 28 (.int .i64 n) (.int .i64 n)).run Try.prog w0 = .ok (.slice (some ⟨bk, 0, none⟩) n n) w1 := by rw [hw1, hbk]; exact make_st n w0 (by omega)
    have b : Below w0.heap.size w0 w1 := by rw [hw1]; exact (Below.refl _ _).alloc (Nat.le_refl _) _
    have HO1 : Hid (Own w1 bk (List.replicate (n * 3) 0)) := Lib.hid (by rw [hw1, hbk]; exact Own.made3 w0 n _)
    have L1 : Hid (BlkL w1 w.heap.size [.slice A a.length ca, .slice L l.length cl, .slice D d.length cd]) := Lib.hid (K0.out.below b)
    have LR : Hid (BlkL w1 (w.heap.size + 1) [.slice none 0 0, .slice none 0 0, .slice none 0 0, .slice none 0 0, .int .i64 0, .float .f32 0, .float .f32 0]) := Lib.hid (KR.out.below b)
    have B1 : Hid (Below w.heap.size w w1) := Lib.hid (below_of B0.out B0.out.size b)
    have HLV : Hid (w.heap.size + 2 ≤ bk) := Lib.hid (by have := Z0.out; omega)
    clear b hw1 hbk K0 KR B0 Z0
    have hq1 : (2 : Int) ≤ (n : Int) := by omega
    have hq2 : (n : Int) ≤ 12 := by omega
    go_enter Try.func18, Try.ntmps18
    go_upto_region 1 with fail
    rw [← hw0]
    clear hw0
    go_wp2
    clear hmk
    go_loopw [30] (fun i wr => ∃ (k : Nat) (xs : List Nat), k ≤ n ∧ i = .int .i64 k ∧ Hid (Mid (List.replicate (n * 3) 0) S' k xs) ∧ Hid (Own wr bk xs) ∧ Hid (Turn w1 wr (fun b => b = bk))) (fun i _ => n - (intOf i).toNat)
    case atStart => exact ⟨0, _, Nat.zero_le _, rfl, Lib.hid (Mid.zero _ _), HO1, Lib.hid (Turn.refl _ _)⟩
    case round =>
      obtain ⟨k, xs, hk, rfl, HM, HQ, HT⟩ := hrel
      clear HO1
      have HXL : Hid (xs.length = n * 3) := Lib.hid (HM.out.1.trans (by simp))
      by_cases hlt : k < n
      · go_wp2_with fail
        refine (i_betweenE hub tip _ _).mono ?_
        rintro e w2 ⟨r, m, rfl, hr, hw2⟩
        have HRR : Hid (canon .f32 r = canon .f32 (evR n hub tip k)) := Lib.hid (evR_impl (by rw [canon_fopV, canon_fopV]; rfl) hr)
        have b : Below wr.heap.size wr w2 := by rw [hw2]; exact below_draws (below_draws (Below.refl _ _) _) _
        clear hr hw2
        have HQ2 : Hid (Own w2 bk xs) := Lib.hid (HQ.out.below b)
        have HT2 : Hid (Turn w1 w2 (fun b => b = bk)) := Lib.hid (HT.out.trans (Turn.of_below b _))
        clear b HQ HT
        obtain ⟨x0, f0⟩ := HQ2.out.2 (k * 3) (by rw [HXL.out]; omega)
        obtain ⟨x1, f1⟩ := HQ2.out.2 (k * 3 + 1) (by rw [HXL.out]; omega)
        obtain ⟨x2, f2⟩ := HQ2.out.2 (k * 3 + 2) (by rw [HXL.out]; omega)
        have hl2 : k * 3 + 2 < xs.length := by rw [HXL.out]; omega
        have HM3 : Hid (Mid (List.replicate (n * 3) 0) S' (k + 1) (setSt xs k r ch tu)) := Lib.hid (HM.out.put hlt (by simp) (setSt_length ..) (by rw [setSt_0 hl2, HRR.out, (HSE.out.2 k hlt).1]) (by rw [setSt_1 hl2, (HSE.out.2 k hlt).2.1]) (by rw [setSt_2 hl2, (HSE.out.2 k hlt).2.2]) (fun j h0 h1 h2 => setSt_o hl2 h0 h1 h2))
        have HQ3 := Lib.hid (HQ2.out.putSt (x := r) (y := ch) (z := tu) HXL.out hlt)
        have HT3 : Hid (Turn w1 (((w2.setCell ⟨bk, k * 3, none⟩ (.float .f32 r)).setCell ⟨bk, k * 3 + 1, none⟩ (.float .f32 ch)).setCell ⟨bk, k * 3 + 2, none⟩ (.float .f32 tu)) (fun b => b = bk)) := Lib.hid (((HT2.out.trans (Turn.set _ ⟨bk, k * 3, none⟩ rfl _)).trans (Turn.set _ ⟨bk, k * 3 + 1, none⟩ rfl _)).trans (Turn.set _ ⟨bk, k * 3 + 2, none⟩ rfl _))
        clear hl2 HM HQ2 HT2 HRR
        go_wp2
        go_roundw
        case rel => exact ⟨k + 1, _, by omega, by go_num, HM3, HQ3, HT3⟩
        case measure => simp [intOf]; omega
      · have hkk : k = n := by omega
        subst hkk
        have e1 := HLV.out
        have HXC := Lib.hid (HM.out.cl (n := k) (by simp) (by rw [HSE.out.1]; simp))
        have HX : Hid (validR a l d xs k c hub tip = validR a l d S' k c hub tip ∧ (validR a l d S' k c hub tip = true → xs = S' ∧ hub = hub ∧ tip = tip)) := Lib.hid (validR_CL HXC.out HXL.out rfl rfl)
        have HBL : Hid (BlkL wr w.heap.size [.slice A a.length ca, .slice L l.length cl, .slice D d.length cd]) := Lib.hid (L1.out.turnS HT.out (by show ¬ w.heap.size = bk; omega))
        have LRR : Hid (BlkL wr (w.heap.size + 1) [.slice none 0 0, .slice none 0 0, .slice none 0 0, .slice none 0 0, .int .i64 0, .float .f32 0, .float .f32 0]) := Lib.hid (LR.out.turnS HT.out (by show ¬ w.heap.size + 1 = bk; omega))
        have BR : Hid (Below w.heap.size w wr) := Lib.hid (HT.out.2.2.2 w B1.out (fun b hb => by have hb : b = bk := hb; omega))
        have HOW := HQ
        have HPR : Hid (Pf wr A L D a l d) := Lib.hid ⟨HP.out.1.below BR.out, HP.out.2.1.below BR.out, HP.out.2.2.below BR.out⟩
        have HRT : Hid (Rt wr A L D (some ⟨bk, 0, none⟩) a l d xs) := Lib.hid ⟨HPR.out, HOW.out.fl⟩
        have HZW : Hid (w.heap.size + 2 ≤ wr.heap.size) := Lib.hid (by have := HOW.out.1; omega)
        obtain ⟨k0, k1, k2⟩ := HBL.out.three
        clear e1 HXC HM HT L1 LR B1 hlt hk
        cases v0 : validP a l d
        · have HN := Lib.hid (HON.out v0)
          have HE := Lib.hid (i_withOwn_p A L D (some ⟨bk, 0, none⟩) ca cl cd k k c hub tip a l d wr HPR.out HNW.out v0)
          clear v0 HON
          go_wp2_with fail
          refine HE.out.mono ?_
          rintro e w6 ⟨rfl, b6⟩
          have B6 : Hid (Below w.heap.size w w6) := Lib.hid (below_of BR.out BR.out.size b6)
          have LR6 : Hid (BlkL w6 (w.heap.size + 1) [.slice none 0 0, .slice none 0 0, .slice none 0 0, .slice none 0 0, .int .i64 0, .float .f32 0, .float .f32 0]) := Lib.hid (LRR.out.below b6)
          clear b6 k0 k1 k2
          have p0 := (LR6.out.2 0 _ rfl).1
          have q0 := (LR6.out.2 0 _ rfl).2
          have p1 := (LR6.out.2 1 _ rfl).1
          have q1 := (LR6.out.2 1 _ rfl).2
          have p2 := (LR6.out.2 2 _ rfl).1
          have q2 := (LR6.out.2 2 _ rfl).2
          have p3 := (LR6.out.2 3 _ rfl).1
          have q3 := (LR6.out.2 3 _ rfl).2
          have p4 := (LR6.out.2 4 _ rfl).1
          have q4 := (LR6.out.2 4 _ rfl).2
          have p5 := (LR6.out.2 5 _ rfl).1
          have q5 := (LR6.out.2 5 _ rfl).2
          have p6 := (LR6.out.2 6 _ rfl).1
          have q6 := (LR6.out.2 6 _ rfl).2
          go_wp2
          refine bodyPost_ret (v := .tuple #[.agg #[.slice none 0 0, .slice none 0 0, .slice none 0 0, .slice none 0 0, .int .i64 0, .float .f32 0, .float .f32 0], .bool false]) ?_ rfl ?_
          · simp [results, Try.results18, go_sem, p0, p1, p2, p3, p4, p5, p6]
          · rw [HN.out]
            exact ⟨none, none, none, none, 0, 0, 0, 0, 0, 1, 2, 3, rfl, OwnT.none _ _, (((((((B6.out).setCell (p := ⟨w.heap.size + 1, 0, none⟩) (by show w.heap.size ≤ w.heap.size + 1; omega) _).setCell (p := ⟨w.heap.size + 1, 1, none⟩) (by show w.heap.size ≤ w.heap.size + 1; omega) _).setCell (p := ⟨w.heap.size + 1, 2, none⟩) (by show w.heap.size ≤ w.heap.size + 1; omega) _).setCell (p := ⟨w.heap.size + 1, 3, none⟩) (by show w.heap.size ≤ w.heap.size + 1; omega) _).setCell (p := ⟨w.heap.size + 1, 4, none⟩) (by show w.heap.size ≤ w.heap.size + 1; omega) _).setCell (p := ⟨w.heap.size + 1, 5, none⟩) (by show w.heap.size ≤ w.heap.size + 1; omega) _).setCell (p := ⟨w.heap.size + 1, 6, none⟩) (by show w.heap.size ≤ w.heap.size + 1; omega) _⟩
        · obtain ⟨s1, s2, s3, s4⟩ := sized_of v0
          have HFW : Hid (FewR a l d xs k) := Lib.hid ⟨HXL.out, by omega⟩
          clear v0 HON s1 s2 s3 s4
          cases v : validR a l d xs k c hub tip
          · have HN : Hid (O = false) := Lib.hid (by rw [HO.out, ← HX.out.1, v])
            have HE := Lib.hid (i_withOwn_no A L D (some ⟨bk, 0, none⟩) ca cl cd k k c hub tip a l d xs wr HRT.out HFW.out v)
            clear v
            go_wp2_with fail
            refine HE.out.mono ?_
            rintro e w6 ⟨rfl, b6⟩
            have B6 : Hid (Below w.heap.size w w6) := Lib.hid (below_of BR.out BR.out.size b6)
            have LR6 : Hid (BlkL w6 (w.heap.size + 1) [.slice none 0 0, .slice none 0 0, .slice none 0 0, .slice none 0 0, .int .i64 0, .float .f32 0, .float .f32 0]) := Lib.hid (LRR.out.below b6)
            clear b6
            try clear k0 k1 k2 k3 k4 k5 k6
            have p0 := (LR6.out.2 0 _ rfl).1
            have q0 := (LR6.out.2 0 _ rfl).2
            have p1 := (LR6.out.2 1 _ rfl).1
            have q1 := (LR6.out.2 1 _ rfl).2
            have p2 := (LR6.out.2 2 _ rfl).1
            have q2 := (LR6.out.2 2 _ rfl).2
            have p3 := (LR6.out.2 3 _ rfl).1
            have q3 := (LR6.out.2 3 _ rfl).2
            have p4 := (LR6.out.2 4 _ rfl).1
            have q4 := (LR6.out.2 4 _ rfl).2
            have p5 := (LR6.out.2 5 _ rfl).1
            have q5 := (LR6.out.2 5 _ rfl).2
            have p6 := (LR6.out.2 6 _ rfl).1
            have q6 := (LR6.out.2 6 _ rfl).2
            go_wp2
            refine bodyPost_ret (v := .tuple #[.agg #[.slice none 0 0, .slice none 0 0, .slice none 0 0, .slice none 0 0, .int .i64 0, .float .f32 0, .float .f32 0], .bool false]) ?_ rfl ?_
            · simp [results, Try.results18, go_sem, p0, p1, p2, p3, p4, p5, p6]
            · rw [HN.out]
              exact ⟨none, none, none, none, 0, 0, 0, 0, 0, 1, 2, 3, rfl, OwnT.none _ _, (((((((B6.out).setCell (p := ⟨w.heap.size + 1, 0, none⟩) (by show w.heap.size ≤ w.heap.size + 1; omega) _).setCell (p := ⟨w.heap.size + 1, 1, none⟩) (by show w.heap.size ≤ w.heap.size + 1; omega) _).setCell (p := ⟨w.heap.size + 1, 2, none⟩) (by show w.heap.size ≤ w.heap.size + 1; omega) _).setCell (p := ⟨w.heap.size + 1, 3, none⟩) (by show w.heap.size ≤ w.heap.size + 1; omega) _).setCell (p := ⟨w.heap.size + 1, 4, none⟩) (by show w.heap.size ≤ w.heap.size + 1; omega) _).setCell (p := ⟨w.heap.size + 1, 5, none⟩) (by show w.heap.size ≤ w.heap.size + 1; omega) _).setCell (p := ⟨w.heap.size + 1, 6, none⟩) (by show w.heap.size ≤ w.heap.size + 1; omega) _⟩
          · have HN : Hid (O = true) := Lib.hid (by rw [HO.out, ← HX.out.1, v])
            obtain ⟨EQ, EQh, EQt⟩ := HX.out.2 (by rw [← HX.out.1, v])
            subst EQ
            have HE := Lib.hid (i_withOwn_yes A L D (some ⟨bk, 0, none⟩) ca cl cd k k c hub tip a l d xs wr HRT.out HFW.out v)
            clear v
            go_wp2_with fail
            refine HE.out.mono ?_
            rintro e w6 ⟨b1, b2, b3, c1, c2, c3, rfl, h3, b6⟩
            have B6 : Hid (Below w.heap.size w w6) := Lib.hid (below_of BR.out BR.out.size b6)
            have LR6 : Hid (BlkL w6 (w.heap.size + 1) [.slice none 0 0, .slice none 0 0, .slice none 0 0, .slice none 0 0, .int .i64 0, .float .f32 0, .float .f32 0]) := Lib.hid (LRR.out.below b6)
            have HT6 : Hid (OwnT w6 (w.heap.size + 2) (some ⟨b1, 0, none⟩) (some ⟨b2, 0, none⟩) (some ⟨b3, 0, none⟩) (some ⟨bk, 0, none⟩) b1 b2 b3 bk a l d xs) := Lib.hid (by
              obtain ⟨o1, o2, o3, g1, g2, g3, n1, n2, n3⟩ := h3
              have e1 := HLV.out
              have e2 := HOW.out.1
              have e3 := HZW.out
              exact ⟨⟨o1.o (by omega), o2.o (by omega), o3.o (by omega), n1, n2, n3⟩, (HOW.out.below b6).o (by omega), by omega, by omega, by omega⟩)
            clear b6 h3
            try clear k0 k1 k2 k3 k4 k5 k6
            have p0 := (LR6.out.2 0 _ rfl).1
            have q0 := (LR6.out.2 0 _ rfl).2
            have p1 := (LR6.out.2 1 _ rfl).1
            have q1 := (LR6.out.2 1 _ rfl).2
            have p2 := (LR6.out.2 2 _ rfl).1
            have q2 := (LR6.out.2 2 _ rfl).2
            have p3 := (LR6.out.2 3 _ rfl).1
            have q3 := (LR6.out.2 3 _ rfl).2
            have p4 := (LR6.out.2 4 _ rfl).1
            have q4 := (LR6.out.2 4 _ rfl).2
            have p5 := (LR6.out.2 5 _ rfl).1
            have q5 := (LR6.out.2 5 _ rfl).2
            have p6 := (LR6.out.2 6 _ rfl).1
            have q6 := (LR6.out.2 6 _ rfl).2
            go_wp2
            refine bodyPost_ret (v := .tuple #[.agg #[.slice (some ⟨b1, 0, none⟩) a.length c1, .slice (some ⟨b2, 0, none⟩) l.length c2, .slice (some ⟨b3, 0, none⟩) d.length c3, .slice (some ⟨bk, 0, none⟩) k k, .int .i64 c, .float .f32 hub, .float .f32 tip], .bool true]) ?_ rfl ?_
            · simp [results, Try.results18, go_sem, p0, p1, p2, p3, p4, p5, p6]
            · rw [HN.out]
              exact ⟨_, _, _, _, c1, c2, c3, k, b1, b2, b3, bk, rfl, ((((((((HT6.out).setT (p := ⟨w.heap.size + 1, 0, none⟩) (by show w.heap.size + 1 < _; omega) _).setT (p := ⟨w.heap.size + 1, 1, none⟩) (by show w.heap.size + 1 < _; omega) _).setT (p := ⟨w.heap.size + 1, 2, none⟩) (by show w.heap.size + 1 < _; omega) _).setT (p := ⟨w.heap.size + 1, 3, none⟩) (by show w.heap.size + 1 < _; omega) _).setT (p := ⟨w.heap.size + 1, 4, none⟩) (by show w.heap.size + 1 < _; omega) _).setT (p := ⟨w.heap.size + 1, 5, none⟩) (by show w.heap.size + 1 < _; omega) _).setT (p := ⟨w.heap.size + 1, 6, none⟩) (by show w.heap.size + 1 < _; omega) _).baseT (by omega), (((((((B6.out).setCell (p := ⟨w.heap.size + 1, 0, none⟩) (by show w.heap.size ≤ w.heap.size + 1; omega) _).setCell (p := ⟨w.heap.size + 1, 1, none⟩) (by show w.heap.size ≤ w.heap.size + 1; omega) _).setCell (p := ⟨w.heap.size + 1, 2, none⟩) (by show w.heap.size ≤ w.heap.size + 1; omega) _).setCell (p := ⟨w.heap.size + 1, 3, none⟩) (by show w.heap.size ≤ w.heap.size + 1; omega) _).setCell (p := ⟨w.heap.size + 1, 4, none⟩) (by show w.heap.size ≤ w.heap.size + 1; omega) _).setCell (p := ⟨w.heap.size + 1, 5, none⟩) (by show w.heap.size ≤ w.heap.size + 1; omega) _).setCell (p := ⟨w.heap.size + 1, 6, none⟩) (by show w.heap.size ≤ w.heap.size + 1; omega) _⟩
  · have HN := Lib.hid (HOZ.out hc)
    have hcc : i < 2 ∨ 2 ≤ i ∧ 12 < i := by omega
    clear hc hn
    rcases hcc with hcc | ⟨hc1, hc2⟩
    · go_enter Try.func18, Try.ntmps18
      go_upto_region 1 with fail
      rw [← hw0]
      clear hw0
      have p0 := (KR.out.2 0 _ rfl).1
      have q0 := (KR.out.2 0 _ rfl).2
      have p1 := (KR.out.2 1 _ rfl).1
      have q1 := (KR.out.2 1 _ rfl).2
      have p2 := (KR.out.2 2 _ rfl).1
      have q2 := (KR.out.2 2 _ rfl).2
      have p3 := (KR.out.2 3 _ rfl).1
      have q3 := (KR.out.2 3 _ rfl).2
      have p4 := (KR.out.2 4 _ rfl).1
      have q4 := (KR.out.2 4 _ rfl).2
      have p5 := (KR.out.2 5 _ rfl).1
      have q5 := (KR.out.2 5 _ rfl).2
      have p6 := (KR.out.2 6 _ rfl).1
      have q6 := (KR.out.2 6 _ rfl).2
      go_wp2
      refine bodyPost_ret (v := .tuple #[.agg #[.slice none 0 0, .slice none 0 0, .slice none 0 0, .slice none 0 0, .int .i64 0, .float .f32 0, .float .f32 0], .bool false]) ?_ rfl ?_
      · simp [results, Try.results18, go_sem, p0, p1, p2, p3, p4, p5, p6]
      · rw [HN.out]
        exact ⟨none, none, none, none, 0, 0, 0, 0, 0, 1, 2, 3, rfl, OwnT.none _ _, (((((((B0.out).setCell (p := ⟨w.heap.size + 1, 0, none⟩) (by show w.heap.size ≤ w.heap.size + 1; omega) _).setCell (p := ⟨w.heap.size + 1, 1, none⟩) (by show w.heap.size ≤ w.heap.size + 1; omega) _).setCell (p := ⟨w.heap.size + 1, 2, none⟩) (by show w.heap.size ≤ w.heap.size + 1; omega) _).setCell (p := ⟨w.heap.size + 1, 3, none⟩) (by show w.heap.size ≤ w.heap.size + 1; omega) _).setCell (p := ⟨w.heap.size + 1, 4, none⟩) (by show w.heap.size ≤ w.heap.size + 1; omega) _).setCell (p := ⟨w.heap.size + 1, 5, none⟩) (by show w.heap.size ≤ w.heap.size + 1; omega) _).setCell (p := ⟨w.heap.size + 1, 6, none⟩) (by show w.heap.size ≤ w.heap.size + 1; omega) _⟩
    · go_enter Try.func18, Try.ntmps18
      go_upto_region 1 with fail
      rw [← hw0]
      clear hw0
      have p0 := (KR.out.2 0 _ rfl).1
      have q0 := (KR.out.2 0 _ rfl).2
      have p1 := (KR.out.2 1 _ rfl).1
      have q1 := (KR.out.2 1 _ rfl).2
      have p2 := (KR.out.2 2 _ rfl).1
      have q2 := (KR.out.2 2 _ rfl).2
      have p3 := (KR.out.2 3 _ rfl).1
      have q3 := (KR.out.2 3 _ rfl).2
      have p4 := (KR.out.2 4 _ rfl).1
      have q4 := (KR.out.2 4 _ rfl).2
      have p5 := (KR.out.2 5 _ rfl).1
      have q5 := (KR.out.2 5 _ rfl).2
      have p6 := (KR.out.2 6 _ rfl).1
      have q6 := (KR.out.2 6 _ rfl).2
      go_wp2
      refine bodyPost_ret (v := .tuple #[.agg #[.slice none 0 0, .slice none 0 0, .slice none 0 0, .slice none 0 0, .int .i64 0, .float .f32 0, .float .f32 0], .bool false]) ?_ rfl ?_
      · simp [results, Try.results18, go_sem, p0, p1, p2, p3, p4, p5, p6]
      · rw [HN.out]
        exact ⟨none, none, none, none, 0, 0, 0, 0, 0, 1, 2, 3, rfl, OwnT.none _ _, (((((((B0.out).setCell (p := ⟨w.heap.size + 1, 0, none⟩) (by show w.heap.size ≤ w.heap.size + 1; omega) _).setCell (p := ⟨w.heap.size + 1, 1, none⟩) (by show w.heap.size ≤ w.heap.size + 1; omega) _).setCell (p := ⟨w.heap.size + 1, 2, none⟩) (by show w.heap.size ≤ w.heap.size + 1; omega) _).setCell (p := ⟨w.heap.size + 1, 3, none⟩) (by show w.heap.size ≤ w.heap.size + 1; omega) _).setCell (p := ⟨w.heap.size + 1, 4, none⟩) (by show w.heap.size ≤ w.heap.size + 1; omega) _).setCell (p := ⟨w.heap.size + 1, 5, none⟩) (by show w.heap.size ≤ w.heap.size + 1; omega) _).setCell (p := ⟨w.heap.size + 1, 6, none⟩) (by show w.heap.size ≤ w.heap.size + 1; omega) _⟩
end Go.Proofs.Ytiiiigldpbomkaa
