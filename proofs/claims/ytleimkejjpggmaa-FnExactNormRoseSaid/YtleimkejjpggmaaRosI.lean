/- NormRose: the program's side. No statement is proved here. -/
import Derived.Test.YtleimkejjpggmaaRosN
namespace Go.Proofs.Ytleimkejjpggmaa
open Go Go.RowKit
set_option maxHeartbeats 4000000 in
theorem i_nrmAt (B B' k S : Nat) (A : Option Addr) (ca : Nat) (a : List Nat) (q : Nat) (w : World) (h : Fl w A a) (hk : k < a.length) (c0 : w.cell? ⟨B, 0, none⟩ = some (.slice A a.length ca)) (c1 : w.cell? ⟨B', 0, none⟩ = some (.float .f32 S))
    (q1 : ∀ w, fopV .quo .f32 (a.getD k 0) S w = q) (q2 : fopN .quo .f32 (a.getD k 0) S = 0) :
    Calls Try.prog 62 #[.int .i64 k, .pointer (some ⟨B, 0, none⟩), .pointer (some ⟨B', 0, none⟩)] w fun e w' => e = .returned (.float .f32 q) ∧ Below w.heap.size w w' := by
  obtain ⟨b, off, rfl, hb, hc⟩ := h.at_ hk
  clear h hb
  generalize a.getD k 0 = x at *
  go_enter Try.func62, Try.ntmps62
  go_wp2
  go_region
  all_goals
    go_wp2
    go_ret
    exact ⟨rfl, by repeat (first | exact Below.refl _ _ | refine below_draws ?_ _)⟩
theorem i_listOf_nrm (c0 c1 : Value) (q : Nat → Nat) (n : Nat) (w : World) (hn : n ≤ 1048576)
    (hat : ∀ k, k < n → ∀ wr, Below w.heap.size w wr → Calls Try.prog 62 #[.int .i64 k, c0, c1] wr fun e w' => e = .returned (.float .f32 (q k)) ∧ Below wr.heap.size wr w') :
    Calls Try.prog 61 #[.int .i64 n, .func (.func 62) #[] #[c0, c1]] w fun e w' => ∃ (A : Option Addr) (xs : List Nat), e = .returned (.slice A n n) ∧ xs.length = n ∧ (∀ k, k < n → xs.getD k 0 = q k) ∧ Below w.heap.size w w' ∧ A = some ⟨w.heap.size, 0, none⟩ ∧ Own w' w.heap.size xs := by
  have hmk := make_f32 n w hn
  have HA := Lib.hid hat; clear hat
  go_enter Try.func61, Try.ntmps61
  go_wp2
  go_loopw [11] (fun i wr => ∃ (k : Nat) (ys : List Nat), k ≤ n ∧ i = .int .i64 k ∧ FlNew w wr w.heap.size n k ys ∧ ys.length = n ∧ Hid (∀ j, j < k → ys.getD j 0 = q j)) (fun i _ => n - (intOf i).toNat)
  case atStart => exact ⟨0, List.replicate n 0, Nat.zero_le _, rfl, FlNew.start .., by simp, Lib.hid (fun j hj => absurd hj (Nat.not_lt_zero j))⟩
  case round =>
    obtain ⟨k, ys, hk, rfl, hnew, hlen, hq⟩ := hrel
    clear hmk
    by_cases hlt : k < n
    · have hcall := HA.out k hlt _ hnew.1
      have HN := Lib.hid hnew; clear hnew
      have hwr : IntKind.i64.wrap ((k : Int) + 1) = (k : Int) + 1 := IntWalk.i64_in _ (by omega)
      go_wp2_with fail
      refine hcall.mono ?_
      rintro e w1 ⟨rfl, b1⟩
      have hn1 := HN.out.below b1
      obtain ⟨hc2, hc3⟩ := hn1.2.2.2 k hlt
      rw [if_neg (by omega)] at hc2
      have hst := (hn1.congr (ys := ys.set k (q k)) (fun j hj => by rw [getD_lset (by omega), if_neg (by omega)])).step hlt
      rw [getD_lset (by omega), if_pos rfl] at hst
      have HS := Lib.hid hst
      have HQ : Hid (∀ j, j < k + 1 → (ys.set k (q k)).getD j 0 = q j) := Lib.hid (fun j hj => by
        rw [getD_lset (by omega)]
        by_cases e : k = j
        · rw [if_pos e, e]
        · rw [if_neg e]; exact hq.out j (by omega))
      clear hst hn1 b1 hcall
      go_wp2
      go_roundw
      case rel => exact ⟨k + 1, ys.set k (q k), by omega, by go_num, HS.out, by simp [hlen], HQ⟩
      case measure => simp [intOf]; omega
    · have HN := Lib.hid hnew; clear hnew
      have hkk : k = n := by omega
      subst hkk
      go_wp2
      go_ret
      exact ⟨_, ys, rfl, hlen, hq.out, HN.out.1, rfl, by subst hlen; exact Own.of_new HN.out (Nat.le_refl _)⟩
set_option maxHeartbeats 8000000 in
set_option maxRecDepth 20000 in
theorem i_NormRose (A L : Option Addr) (ca cl : Nat) (a l : List Nat) (w : World) (h : Rs w A L a l) (hn : FewS a l) :
    Calls Try.prog 29 #[.agg #[.slice A a.length ca, .slice L l.length cl]] w fun e w' => ∃ (R1 R2 : Option Addr) (c1 c2 g1 g2 : Nat), e = .returned (.tuple #[.agg #[.slice R1 (gLn (nrmO a l) (nrmA a)).length c1, .slice R2 (gLn (nrmO a l) l).length c2], .bool (nrmO a l)]) ∧ OwnR2 w' w.heap.size R1 R2 g1 g2 (gLn (nrmO a l) (nrmA a)) (gLn (nrmO a l) l) ∧ Below w.heap.size w w' := by
  have HP := Lib.hid h; clear h
  have HNF := Lib.hid hn
  obtain ⟨w0, hw0⟩ : ∃ x, x = (w.alloc (.cells #[.slice A a.length ca, .slice L l.length cl] 47)).alloc (.cells #[.slice none 0 0, .slice none 0 0] 47) := ⟨_, rfl⟩
  have K0 : Hid (BlkL w0 w.heap.size [.slice A a.length ca, .slice L l.length cl]) := Lib.hid (by rw [hw0]; exact (blkL_at w #[.slice A a.length ca, .slice L l.length cl] _ rfl).alloc _)
  have KR : Hid (BlkL w0 (w.heap.size + 1) [.slice none 0 0, .slice none 0 0]) := Lib.hid (by rw [hw0]; exact blkL_at (w.alloc _) #[.slice none 0 0, .slice none 0 0] _ (by simp))
  have B0 : Hid (Below w.heap.size w w0) := Lib.hid (by rw [hw0]; exact ((Below.refl _ _).alloc (Nat.le_refl _) _).alloc (by simp) _)
  have Z0 : Hid (w0.heap.size = w.heap.size + 2) := Lib.hid (by rw [hw0]; simp)
  obtain ⟨k0, k1⟩ := K0.out.two
  go_enter Try.func29, Try.ntmps29
  go_wp2_with fail
  rw [← hw0]
  clear hw0
  refine (i_ValidRose A L ca cl a l _ (HP.out.below B0.out) hn).mono ?_
  rintro e w1 ⟨rfl, b1⟩
  clear k0 k1
  have L0 : Hid (BlkL w1 w.heap.size [.slice A a.length ca, .slice L l.length cl]) := Lib.hid (K0.out.below b1)
  have LR : Hid (BlkL w1 (w.heap.size + 1) [.slice none 0 0, .slice none 0 0]) := Lib.hid (KR.out.below b1)
  have B1 : Hid (Below w.heap.size w w1) := Lib.hid (below_of B0.out B0.out.size b1)
  have Z1 : Hid (w.heap.size + 2 ≤ w1.heap.size) := Lib.hid (by have := b1.size; have := Z0.out; omega)
  clear b1
  obtain ⟨k0, k1⟩ := L0.out.two
  cases v : rosV a l
  · have HN := Lib.hid (nrmO_v v); clear v
    have p0 := (LR.out.2 0 _ rfl).1
    have q0 := (LR.out.2 0 _ rfl).2
    have p1 := (LR.out.2 1 _ rfl).1
    have q1 := (LR.out.2 1 _ rfl).2
    go_wp2
    refine bodyPost_ret (v := .tuple #[.agg #[.slice none 0 0, .slice none 0 0], .bool false]) ?_ rfl ?_
    · simp [results, Try.results29, go_sem, p0, p1]
    · rw [HN.out]
      exact ⟨none, none, 0, 0, 0, 1, rfl, ⟨.inl rfl, .inl rfl, by decide⟩, ((B1.out).setCell (p := ⟨w.heap.size + 1, 0, none⟩) (by show w.heap.size ≤ w.heap.size + 1; omega) _).setCell (p := ⟨w.heap.size + 1, 1, none⟩) (by show w.heap.size ≤ w.heap.size + 1; omega) _⟩
  · have V := Lib.hid v
    obtain ⟨s1, s2, s3⟩ := rosV_sized v
    have S3 := Lib.hid s3
    clear v s3
    go_wp2_with fail
    refine (i_sumOf A ca a _ (HP.out.1.below B1.out) (by omega)).mono ?_
    rintro e w' ⟨r, n2, rfl, hr, rfl⟩
    obtain rfl := sum_is V.out hr
    clear hr
    have HLQ := Lib.hid (sum_leq V.out)
    obtain ⟨S, hS⟩ : ∃ S, S = sumK a a.length := ⟨_, rfl⟩
    rw [← hS] at HLQ
    rw [← hS]
    have HS := Lib.hid hS; clear hS
    obtain ⟨w3, hw3⟩ : ∃ x, x = ((w1.drewN n2).alloc (.cells #[.float .f32 0] 26)).setCell ⟨w1.heap.size, 0, none⟩ (.float .f32 S) := ⟨_, rfl⟩
    have bB : Below w1.heap.size w1 w3 := by rw [hw3]; exact ((below_draws (Below.refl _ _) n2).alloc (Nat.le_refl _) _).setCell (p := ⟨w1.heap.size, 0, none⟩) (Nat.le_refl _) _
    have L3 : Hid (BlkL w3 w.heap.size [.slice A a.length ca, .slice L l.length cl]) := Lib.hid (L0.out.below bB)
    have LR3 : Hid (BlkL w3 (w.heap.size + 1) [.slice none 0 0, .slice none 0 0]) := Lib.hid (LR.out.below bB)
    have LS3 : Hid (BlkL w3 w1.heap.size [.float .f32 S]) := Lib.hid (by rw [hw3]; exact (blkL_at (w1.drewN n2) #[.float .f32 0] 26 rfl).set (i := 0) (by simp) _)
    have B3 : Hid (Below w.heap.size w w3) := Lib.hid (below_of B1.out B1.out.size bB)
    have Z3 : Hid (w.heap.size + 2 ≤ w3.heap.size) := Lib.hid (by have := bB.size; have := Z1.out; omega)
    have cA := ((blkL_at (w1.drewN n2) #[.float .f32 0] 26 (n := w1.heap.size) rfl).2 0 _ rfl).1
    have cF := ((blkL_at (w1.drewN n2) #[.float .f32 0] 26 (n := w1.heap.size) rfl).2 0 _ rfl).2
    clear bB
    have s0 := (LS3.out.2 0 _ rfl).1
    have r0 := (L3.out.2 0 _ rfl).1
    have r1 := (L3.out.2 1 _ rfl).1
    rw [hw3] at s0 r0 r1
    cases g : gtr32 S 0
    · have HN : Hid (nrmO a l = false) := Lib.hid (nrmO_g (by rw [← HS.out, g]))
      have hq := HLQ.out
      rw [g] at hq
      unfold leq32 at hq
      clear g
      have p0 := (LR3.out.2 0 _ rfl).1
      have q0 := (LR3.out.2 0 _ rfl).2
      have p1 := (LR3.out.2 1 _ rfl).1
      have q1 := (LR3.out.2 1 _ rfl).2
      rw [hw3] at p0 q0 p1 q1
      go_wp2
      rw [← hw3]
      rw [← hw3] at p0 q0 p1 q1
      refine bodyPost_ret (v := .tuple #[.agg #[.slice none 0 0, .slice none 0 0], .bool false]) ?_ rfl ?_
      · simp [results, Try.results29, go_sem, p0, p1]
      · rw [HN.out]
        exact ⟨none, none, 0, 0, 0, 1, rfl, ⟨.inl rfl, .inl rfl, by decide⟩, ((B3.out).setCell (p := ⟨w.heap.size + 1, 0, none⟩) (by show w.heap.size ≤ w.heap.size + 1; omega) _).setCell (p := ⟨w.heap.size + 1, 1, none⟩) (by show w.heap.size ≤ w.heap.size + 1; omega) _⟩
    · have HG := Lib.hid g
      have hq := HLQ.out
      rw [g] at hq
      unfold leq32 at hq
      clear g
      go_wp2_with fail
      rw [← hw3]
      clear hw3 cA cF s0 r0 r1 hq
      have hle : a.length ≤ 1048576 := by omega
      refine (i_listOf_nrm _ _ (nrmQ a) a.length _ hle (fun k hk wr hb => i_nrmAt w.heap.size w1.heap.size k S A ca a (nrmQ a k) wr (HP.out.1.below (below_of B3.out B3.out.size hb)) hk ((L3.out.below hb).2 0 _ rfl).1 ((LS3.out.below hb).2 0 _ rfl).1 (by rw [HS.out]; exact (nrm_sure V.out (by rw [← HS.out]; exact HG.out) hk).1) (by rw [HS.out]; exact (nrm_sure V.out (by rw [← HS.out]; exact HG.out) hk).2))).mono ?_
      rintro e w4 ⟨Y, ys, rfl, hlen, hq, b4, rfl, hown⟩
      obtain rfl : ys = nrmA a := nrm_list hlen hq
      have B4 : Hid (Below w.heap.size w w4) := Lib.hid (below_of B3.out B3.out.size b4)
      have L4 : Hid (BlkL w4 w.heap.size [.slice A a.length ca, .slice L l.length cl]) := Lib.hid (L3.out.below b4)
      have LR4 : Hid (BlkL w4 (w.heap.size + 1) [.slice none 0 0, .slice none 0 0]) := Lib.hid (LR3.out.below b4)
      have HO4 : Hid (Own w4 w3.heap.size (nrmA a)) := Lib.hid hown
      have Z4 : Hid (w3.heap.size < w4.heap.size) := Lib.hid hown.1
      clear b4 hown hq hlen
      have r1 := (L4.out.2 1 _ rfl).1
      go_wp2_with fail
      refine (lib_CloneR L cl l _ (HP.out.2.below B4.out) (by have := S3.out; omega) (by have := S3.out; omega)).mono ?_
      rintro e w5 ⟨A', cc, gg, rfl, hoc, b5⟩
      have B5 : Hid (Below w.heap.size w w5) := Lib.hid (below_of B4.out B4.out.size b5)
      have LR5 : Hid (BlkL w5 (w.heap.size + 1) [.slice none 0 0, .slice none 0 0]) := Lib.hid (LR4.out.below b5)
      have HO5 : Hid (Own w5 w3.heap.size (nrmA a)) := Lib.hid (HO4.out.below b5)
      have HC5 : Hid (OwnO w5 w4.heap.size A' gg l) := Lib.hid hoc
      clear b5 hoc
      have HL6 : Hid ((nrmA a).length = a.length) := Lib.hid (nrmA_length a)
      have HRS : Hid (Rs w5 (some ⟨w3.heap.size, 0, none⟩) A' (nrmA a) l) := Lib.hid ⟨HO5.out.fl, HC5.out.fl⟩
      have HFW : Hid (FewS (nrmA a) l) := Lib.hid (by have := S3.out; unfold FewS; rw [HL6.out]; omega)
      have HYN : Hid (nrmO a l = rosV (nrmA a) l) := Lib.hid (nrmO_yes V.out (by rw [← HS.out]; exact HG.out))
      cases v : rosV (nrmA a) l
      · have HN : Hid (nrmO a l = false) := Lib.hid (by rw [HYN.out, v])
        have HE := Lib.hid (i_GiveR_no (some ⟨w3.heap.size, 0, none⟩) A' a.length cc (nrmA a) l w5 HRS.out HFW.out v)
        rw [HL6.out] at HE
        clear v
        go_wp2_with fail
        refine HE.out.mono ?_
        rintro e w6 ⟨rfl, b6⟩
        have B6 : Hid (Below w.heap.size w w6) := Lib.hid (below_of B5.out B5.out.size b6)
        have LR6 : Hid (BlkL w6 (w.heap.size + 1) [.slice none 0 0, .slice none 0 0]) := Lib.hid (LR5.out.below b6)
        clear b6
        have p0 := (LR6.out.2 0 _ rfl).1
        have q0 := (LR6.out.2 0 _ rfl).2
        have p1 := (LR6.out.2 1 _ rfl).1
        have q1 := (LR6.out.2 1 _ rfl).2
        go_wp2
        refine bodyPost_ret (v := .tuple #[.agg #[.slice none 0 0, .slice none 0 0], .bool false]) ?_ rfl ?_
        · simp [results, Try.results29, go_sem, p0, p1]
        · rw [HN.out]
          exact ⟨none, none, 0, 0, 0, 1, rfl, ⟨.inl rfl, .inl rfl, by decide⟩, ((B6.out).setCell (p := ⟨w.heap.size + 1, 0, none⟩) (by show w.heap.size ≤ w.heap.size + 1; omega) _).setCell (p := ⟨w.heap.size + 1, 1, none⟩) (by show w.heap.size ≤ w.heap.size + 1; omega) _⟩
      · have HN : Hid (nrmO a l = true) := Lib.hid (by rw [HYN.out, v])
        have HE := Lib.hid (i_GiveR_yes (some ⟨w3.heap.size, 0, none⟩) A' a.length cc (nrmA a) l w5 HRS.out HFW.out v)
        rw [HL6.out] at HE
        clear v
        go_wp2_with fail
        refine HE.out.mono ?_
        rintro e w6 ⟨rfl, b6⟩
        have B6 : Hid (Below w.heap.size w w6) := Lib.hid (below_of B5.out B5.out.size b6)
        have LR6 : Hid (BlkL w6 (w.heap.size + 1) [.slice none 0 0, .slice none 0 0]) := Lib.hid (LR5.out.below b6)
        have HX6 : Hid (Own w6 w3.heap.size (nrmA a)) := Lib.hid (HO5.out.below b6)
        have HC6 : Hid (OwnO w6 w4.heap.size A' gg l) := Lib.hid (HC5.out.below b6)
        clear b6
        have p0 := (LR6.out.2 0 _ rfl).1
        have q0 := (LR6.out.2 0 _ rfl).2
        have p1 := (LR6.out.2 1 _ rfl).1
        have q1 := (LR6.out.2 1 _ rfl).2
        go_wp2
        refine bodyPost_ret (v := .tuple #[.agg #[.slice (some ⟨w3.heap.size, 0, none⟩) a.length a.length, .slice A' l.length cc], .bool true]) ?_ rfl ?_
        · simp [results, Try.results29, go_sem, p0, p1]
        · rw [HN.out]
          refine ⟨some ⟨w3.heap.size, 0, none⟩, A', a.length, cc, w3.heap.size, gg, ?_, ?_, ((B6.out).setCell (p := ⟨w.heap.size + 1, 0, none⟩) (by show w.heap.size ≤ w.heap.size + 1; omega) _).setCell (p := ⟨w.heap.size + 1, 1, none⟩) (by show w.heap.size ≤ w.heap.size + 1; omega) _⟩
          · show Ending.returned _ = Ending.returned (.tuple #[.agg #[.slice _ (nrmA a).length _, .slice _ l.length _], _])
            rw [HL6.out]
          · have z0 := Z3.out
            have z4 := Z4.out
            have hl := S3.out
            rcases HC6.out with h0 | ⟨rfl, hgg, hown⟩
            · exfalso; rw [h0] at hl; simp at hl; omega
            · exact OwnR2.of (((HX6.out).setCell (p := ⟨w.heap.size + 1, 0, none⟩) (by show w.heap.size + 1 ≠ _; omega) _).setCell (p := ⟨w.heap.size + 1, 1, none⟩) (by show w.heap.size + 1 ≠ _; omega) _) ((hown.setCell (p := ⟨w.heap.size + 1, 0, none⟩) (by show w.heap.size + 1 ≠ _; omega) _).setCell (p := ⟨w.heap.size + 1, 1, none⟩) (by show w.heap.size + 1 ≠ _; omega) _) (by omega) (by omega)
end Go.Proofs.Ytleimkejjpggmaa
