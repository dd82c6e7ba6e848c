/- Stations changed one by one: the program. No statement is proved here. -/
import Derived.Test.YtiiiigldpbomkaaTwM
import Derived.Test.YtiiiigldpbomkaaStI
namespace Go.Proofs.Ytiiiigldpbomkaa
open Go Go.RowKit
/-- the first k stations of what is told -/
def Pre3 (S xs : List Nat) (k : Nat) : Prop := xs.length = k * 3 ∧ ∀ j, j < k * 3 → canon .f32 (xs.getD j 0) = canon .f32 (S.getD j 0)
theorem Pre3.nil (S : List Nat) : Pre3 S [] 0 := ⟨rfl, fun j hj => by omega⟩
theorem Pre3.cl {S xs : List Nat} {n : Nat} (h : Pre3 S xs n) (hS : S.length = n * 3) : CL xs S := ⟨h.1.trans hS.symm, fun j hj => h.2 j (by have := h.1; omega)⟩
theorem getD_app3 (xs : List Nat) (x y z j : Nat) : (xs ++ [x, y, z]).getD j 0 = if j < xs.length then xs.getD j 0 else if j = xs.length then x else if j = xs.length + 1 then y else if j = xs.length + 2 then z else 0 := by
  simp only [List.getD, List.getElem?_append]
  by_cases h : j < xs.length
  · simp [h]
  · rw [if_neg h, if_neg h]
    obtain ⟨i, rfl⟩ : ∃ i, j = xs.length + i := ⟨j - xs.length, by omega⟩
    rw [Nat.add_sub_cancel_left]
    rcases i with _ | _ | _ | i
    · simp
    · simp
    · simp
    · simp
theorem Pre3.snoc {S xs : List Nat} {k x y z : Nat} (h : Pre3 S xs k) (h0 : canon .f32 x = canon .f32 (S.getD (k * 3) 0)) (h1 : canon .f32 y = canon .f32 (S.getD (k * 3 + 1) 0)) (h2 : canon .f32 z = canon .f32 (S.getD (k * 3 + 2) 0)) : Pre3 S (xs ++ [x, y, z]) (k + 1) := by
  obtain ⟨e, h⟩ := h
  refine ⟨by rw [List.length_append, e]; simp; omega, fun j hj => ?_⟩
  rw [getD_app3, e]
  by_cases g0 : j < k * 3
  · rw [if_pos g0]; exact h j g0
  rw [if_neg g0]
  by_cases g1 : j = k * 3
  · subst g1; rw [if_pos rfl]; exact h0
  rw [if_neg g1]
  by_cases g2 : j = k * 3 + 1
  · subst g2; rw [if_pos rfl]; exact h1
  have g3 : j = k * 3 + 2 := by omega
  subst g3
  rw [if_neg g2, if_pos rfl]; exact h2
/-- a list of stations of the call's own, that may grow -/
def Gr3 (w : World) (B0 : Nat) (v : Value) (k : Nat) (xs : List Nat) : Prop := w.ownsRow B0 47 3 v k (xs.map (Value.float .f32))
theorem Gr3.below {w w' : World} {B0 k : Nat} {v : Value} {xs : List Nat} (h : Gr3 w B0 v k xs) (hb : Below w.heap.size w w') : Gr3 w' B0 v k xs := by
  refine ⟨h.1, ?_⟩
  rcases h.2 with hn | ⟨g, cap, cur, rfl, hbg, hgg, rest⟩
  · exact .inl hn
  · refine .inr ⟨g, cap, cur, rfl, hbg, ?_, rest⟩
    rw [hb.block g (Array.getElem?_eq_some_iff.1 hgg).1]
    exact hgg
theorem Gr3.next {w0 wr w1 : World} {B0 k x y z : Nat} {v v' : Value} {xs : List Nat} {o : Obj} (h : Gr3 wr B0 v k xs) (hb : Below w0.heap.size w0 wr) (hB : w0.heap.size ≤ B0)
    (ho : w1.ownsRow B0 47 3 v' (k + 1) (xs.map (Value.float .f32) ++ [.float .f32 x, .float .f32 y, .float .f32 z])) (hg : (wr.alloc o).grownBy w1 v.ownBlock) : Gr3 w1 B0 v' (k + 1) (xs ++ [x, y, z]) ∧ Below w0.heap.size w0 w1 := by
  refine ⟨by unfold Gr3; simpa using ho, ?_⟩
  have hlt := World.ownsRow.lt h
  exact (hb.alloc hb.size o).grown hg (by have := hb.size; simp; omega) (fun k hk => by have := (hlt k hk).1; omega)
set_option maxHeartbeats 4000000 in
set_option maxRecDepth 100000 in
theorem i_TwistRotor1 (x y z u B1 : Nat) (w : World) (h1 : BlkL w B1 [.float .f32 u]) :
    Calls Try.prog 89 #[.agg #[.float .f32 x, .float .f32 y, .float .f32 z], .pointer (some ⟨B1, 0, none⟩)] w fun e w' => ∃ x' y' z', e = .returned (.agg #[.float .f32 x', .float .f32 y', .float .f32 z']) ∧ canon .f32 x' = canon .f32 (twG u 0 x) ∧ canon .f32 y' = canon .f32 (twG u 1 y) ∧ canon .f32 z' = canon .f32 (twG u 2 z) ∧ Below w.heap.size w w' := by
  obtain ⟨w0, hw0⟩ : ∃ q, q = (w.alloc (.cells #[.float .f32 x, .float .f32 y, .float .f32 z] 47)).alloc (.cells #[.float .f32 0, .float .f32 0, .float .f32 0] 47) := ⟨_, rfl⟩
  have B0 : Hid (Below w.heap.size w w0) := Lib.hid (by rw [hw0]; exact ((Below.refl _ _).alloc (Nat.le_refl _) _).alloc (by simp) _)
  have K0 : Hid (BlkL w0 w.heap.size [.float .f32 x, .float .f32 y, .float .f32 z]) := Lib.hid (by rw [hw0]; exact (blkL_at w #[.float .f32 x, .float .f32 y, .float .f32 z] _ rfl).alloc _)
  have KR : Hid (BlkL w0 (w.heap.size + 1) [.float .f32 0, .float .f32 0, .float .f32 0]) := Lib.hid (by rw [hw0]; exact blkL_at (w.alloc _) #[.float .f32 0, .float .f32 0, .float .f32 0] _ (by simp))
  have k1 := ((h1.below B0.out).2 0 _ rfl).1
  obtain ⟨m0, m1, m2⟩ := K0.out.three
  have p0 := (KR.out.2 0 _ rfl).1
  have q0 := (KR.out.2 0 _ rfl).2
  have p1 := (KR.out.2 1 _ rfl).1
  have q1 := (KR.out.2 1 _ rfl).2
  have p2 := (KR.out.2 2 _ rfl).1
  have q2 := (KR.out.2 2 _ rfl).2
  clear h1
  go_enter Try.func89, Try.ntmps89
  go_upto_region 1 with fail
  rw [← hw0]
  clear hw0
  go_wp2
  obtain ⟨zz, hz⟩ : ∃ q, q = fopV .add .f32 z u w0 := ⟨_, rfl⟩
  rw [← hz]
  refine bodyPost_ret (v := .agg #[.float .f32 x, .float .f32 y, .float .f32 zz]) ?_ rfl ⟨x, y, zz, rfl, rfl, rfl, by rw [hz, canon_fopV]; exact (canon_fop ..).symm, (((below_draws B0.out _).setCell (p := ⟨w.heap.size + 1, 0, none⟩) (by show w.heap.size ≤ w.heap.size + 1; omega) _).setCell (p := ⟨w.heap.size + 1, 1, none⟩) (by show w.heap.size ≤ w.heap.size + 1; omega) _).setCell (p := ⟨w.heap.size + 1, 2, none⟩) (by show w.heap.size ≤ w.heap.size + 1; omega) _⟩
  simp [results, Try.results89, go_sem, p0, p1, p2]
set_option maxHeartbeats 8000000 in
set_option maxRecDepth 100000 in
theorem i_changeTwistRotor (A L D S : Option Addr) (ca cl cd n cs : Nat) (c : Int) (hub tip : Nat) (a l d s : List Nat) (u B1 : Nat) (w : World) (h : Rt w A L D S a l d s) (hn : FewR a l d s n) (h1 : 1 ≤ n) (h12 : n ≤ 12) (k1 : BlkL w B1 [.float .f32 u]) :
    Calls Try.prog 88 #[.agg #[.slice A a.length ca, .slice L l.length cl, .slice D d.length cd, .slice S n cs, .int .i64 c, .float .f32 hub, .float .f32 tip], .func (.func 89) #[] #[.pointer (some ⟨B1, 0, none⟩)]] w fun e w' => ∃ bk ck xs, e = .returned (.agg #[.slice A a.length ca, .slice L l.length cl, .slice D d.length cd, .slice (some ⟨bk, 0, none⟩) n ck, .int .i64 c, .float .f32 hub, .float .f32 tip]) ∧ Own w' bk xs ∧ w.heap.size ≤ bk ∧ CL xs (mp3 (twG u) s) ∧ Below w.heap.size w w' := by
  obtain ⟨i0, hi, hz0, hz1, hz2⟩ := info_parts st_infoT
  have HP : Hid (Fl w S s) := Lib.hid h.2
  have HSL := Lib.hid hn.1
  have HC1 := Lib.hid k1
  have HS3 : Hid ((mp3 (twG u) s).length = n * 3 ∧ ∀ k, k < n → (mp3 (twG u) s).getD (k * 3) 0 = twG u 0 (s.getD (k * 3) 0) ∧ (mp3 (twG u) s).getD (k * 3 + 1) 0 = twG u 1 (s.getD (k * 3 + 1) 0) ∧ (mp3 (twG u) s).getD (k * 3 + 2) 0 = twG u 2 (s.getD (k * 3 + 2) 0)) := Lib.hid ⟨(mp3_length _ _).trans HSL.out, fun k hk => by
    have hz := HSL.out
    exact ⟨mp3_0 (by omega), mp3_1 (by omega), mp3_2 (by omega)⟩⟩
  generalize mp3 (twG u) s = S' at HS3 ⊢
  clear h hn k1
  obtain ⟨w0, hw0⟩ : ∃ q, q = (w.alloc (.cells #[.slice A a.length ca, .slice L l.length cl, .slice D d.length cd, .slice S n cs, .int .i64 c, .float .f32 hub, .float .f32 tip] 30)).alloc (.cells #[.slice none 0 0, .slice none 0 0, .slice none 0 0, .slice none 0 0, .int .i64 0, .float .f32 0, .float .f32 0] 30) := ⟨_, rfl⟩
  have B0 : Hid (Below w.heap.size w w0) := Lib.hid (by rw [hw0]; exact ((Below.refl _ _).alloc (Nat.le_refl _) _).alloc (by simp) _)
  have K0 : Hid (BlkL w0 w.heap.size [.slice A a.length ca, .slice L l.length cl, .slice D d.length cd, .slice S n cs, .int .i64 c, .float .f32 hub, .float .f32 tip]) := Lib.hid (by rw [hw0]; exact (blkL_at w #[.slice A a.length ca, .slice L l.length cl, .slice D d.length cd, .slice S n cs, .int .i64 c, .float .f32 hub, .float .f32 tip] _ rfl).alloc _)
  have KR : Hid (BlkL w0 (w.heap.size + 1) [.slice none 0 0, .slice none 0 0, .slice none 0 0, .slice none 0 0, .int .i64 0, .float .f32 0, .float .f32 0]) := Lib.hid (by rw [hw0]; exact blkL_at (w.alloc _) #[.slice none 0 0, .slice none 0 0, .slice none 0 0, .slice none 0 0, .int .i64 0, .float .f32 0, .float .f32 0] _ (by simp))
  have Z0 : Hid (w0.heap.size = w.heap.size + 2) := Lib.hid (by rw [hw0]; simp)
  have hmk := run_make (P := Try.prog) w0 28 47 i0 (.agg #[.float .f32 0, .float .f32 0, .float .f32 0]) (by kernel_rfl) hi hz0 .i64 .i64 0 n (by omega) (by omega) (by rw [hz2]; omega) (by omega)
  rw [hz1] at hmk
  have hmk' : (Instr.makeSlice 28 (.int .i64 0) (.int .i64 n)).run Try.prog w0 = .ok (.slice (some ⟨w0.heap.size, 0, none⟩) 0 n) (w0.alloc (.cells (madeCells #[.float .f32 0, .float .f32 0, .float .f32 0] (n * 3)) 47)) := by
    rw [hmk]; simp [Value.cells]
  clear hmk
  have HST : Hid (Gr3 (w0.alloc (.cells (madeCells #[.float .f32 0, .float .f32 0, .float .f32 0] (n * 3)) 47)) w0.heap.size (.slice (some ⟨w0.heap.size, 0, none⟩) 0 n) 0 []) := Lib.hid (World.ownsRow_made _ _ _ (Nat.le_refl _) (by unfold maxLen; omega) (by simp [madeCells]))
  have HB0 : Hid (Below w0.heap.size w0 (w0.alloc (.cells (madeCells #[.float .f32 0, .float .f32 0, .float .f32 0] (n * 3)) 47))) := Lib.hid ((Below.refl _ _).alloc (Nat.le_refl _) _)
  have k3 := (K0.out.2 3 _ rfl).1
  have k3' := fun o => ((K0.out.alloc o).2 3 _ rfl).1
  go_enter Try.func88, Try.ntmps88
  go_upto_region 1 with fail
  rw [← hw0]
  clear hw0
  go_wp2
  clear hmk' k3 k3'
  go_loopw [5, 15] (fun v i wr => ∃ (k : Nat) (xs : List Nat), k ≤ n ∧ i = .int .i64 k ∧ Hid (Gr3 wr w0.heap.size v k xs) ∧ Hid (Pre3 S' xs k) ∧ Hid (Below w0.heap.size w0 wr)) (fun _ i _ => n - (intOf i).toNat)
  case atStart => exact ⟨0, [], Nat.zero_le _, rfl, HST, Lib.hid (Pre3.nil _), HB0⟩
  case round =>
    obtain ⟨k, xs, hk, rfl, HG, HM, HBW⟩ := hrel
    clear HST HB0
    by_cases hlt : k < n
    · have HB2 : Hid (Below w.heap.size w wr) := Lib.hid (below_of B0.out B0.out.size HBW.out)
      obtain ⟨b, off, rfl, hb, hc0⟩ := HP.out.at_ (k := k * 3) (by rw [HSL.out]; omega)
      have hc1 := HP.out.same rfl (k := k * 3 + 1) (by rw [HSL.out]; omega)
      have hc2 := HP.out.same rfl (k := k * 3 + 2) (by rw [HSL.out]; omega)
      rw [← Nat.add_assoc] at hc1 hc2
      have d0 := HB2.out.cell (p := ⟨b, off + k * 3, none⟩) hb
      have d1 := HB2.out.cell (p := ⟨b, off + k * 3 + 1, none⟩) hb
      have d2 := HB2.out.cell (p := ⟨b, off + k * 3 + 2, none⟩) hb
      rw [hc0] at d0
      rw [hc1] at d1
      rw [hc2] at d2
      have HS := Lib.hid (HS3.out.2 k hlt)
      clear hc0 hc1 hc2 hb
      generalize s.getD (k * 3) 0 = x at d0 HS
      generalize s.getD (k * 3 + 1) 0 = y at d1 HS
      generalize s.getD (k * 3 + 2) 0 = z at d2 HS
      have HAL : Hid (BlkL (wr.alloc (.cells #[.float .f32 x, .float .f32 y, .float .f32 z] 47)) B1 [.float .f32 u]) := Lib.hid ((HC1.out.below HB2.out).alloc _)
      go_wp2_with fail
      refine (i_TwistRotor1 x y z u B1 _ HAL.out).mono ?_
      rintro e w1 ⟨x', y', z', rfl, e0, e1, e2, b⟩
      have b2 : Below wr.heap.size wr w1 := below_of ((Below.refl _ _).alloc (Nat.le_refl _) _) (by simp) b
      have HG1 := Lib.hid (HG.out.below b2)
      have HB1 : Hid (Below w0.heap.size w0 w1) := Lib.hid (below_of HBW.out HBW.out.size b2)
      have HM1 : Hid (Pre3 S' (xs ++ [x', y', z']) (k + 1)) := Lib.hid (HM.out.snoc (by rw [e0, HS.out.1]) (by rw [e1, HS.out.2.1]) (by rw [e2, HS.out.2.2]))
      clear e0 e1 e2 b b2 HAL d0 d1 d2 HS HG HBW HB2
      have hown := HG1.out
      unfold Gr3 at hown
      go_wp2_with (first
        | (at_builtin; refine wpList_append_own _ rfl _ _ 28 rfl w0.heap.size 47 i0 (.agg #[.float .f32 0, .float .f32 0, .float .f32 0]) 3 12 Try.underlying28 hi hz0 hz1 hz2 rfl (by decide) _ _ _ rfl (hown.alloc _) ⟨_, 0, none⟩ 1 1 [.float .f32 x', .float .f32 y', .float .f32 z'] rfl rfl ?c1 ?c2 ?c3 ?c4 ?c5 ?_)
        | fail)
      case c1 =>
        intro j u hj
        match j, hj with
        | 0, hj => simp at hj; subst hj; exact ((blkL_at w1 #[.float .f32 x', .float .f32 y', .float .f32 z'] _ rfl).2 0 _ rfl).1
        | 1, hj => simp at hj; subst hj; exact ((blkL_at w1 #[.float .f32 x', .float .f32 y', .float .f32 z'] _ rfl).2 1 _ rfl).1
        | 2, hj => simp at hj; subst hj; exact ((blkL_at w1 #[.float .f32 x', .float .f32 y', .float .f32 z'] _ rfl).2 2 _ rfl).1
      case c2 => intro u hu; simp at hu; rcases hu with rfl | rfl | rfl <;> rfl
      case c3 => unfold maxLen; omega
      case c4 => omega
      case c5 => have := HB1.out.size; simp; omega
      · intro v' w2 hown' hgrow _
        obtain ⟨g2, b2⟩ := Gr3.next HG1.out HB1.out (Nat.le_refl _) hown' hgrow
        have HG2 := Lib.hid g2
        have HB2 := Lib.hid b2
        clear g2 b2 hown hown' hgrow
        go_wp2
        go_roundw
        case rel => exact ⟨k + 1, _, by omega, by go_num, HG2, HM1, HB2⟩
        case measure => simp [intOf]; omega
    · have hkk : k = n := by omega
      subst hkk
      obtain ⟨bk, ck, rfl, hlb, ho⟩ := rows_own HG.out h1
      have z0 := Z0.out
      have L0 : Hid (BlkL wr w.heap.size [.slice A a.length ca, .slice L l.length cl, .slice D d.length cd, .slice S k cs, .int .i64 c, .float .f32 hub, .float .f32 tip]) := Lib.hid (K0.out.below HBW.out)
      have LR : Hid (BlkL wr (w.heap.size + 1) [.slice none 0 0, .slice none 0 0, .slice none 0 0, .slice none 0 0, .int .i64 0, .float .f32 0, .float .f32 0]) := Lib.hid (KR.out.below HBW.out)
      have HO := Lib.hid ho
      have HCL : Hid (CL xs S') := Lib.hid (HM.out.cl HS3.out.1)
      have HLB : Hid (w0.heap.size ≤ bk) := Lib.hid hlb
      have BW : Hid (Below w.heap.size w wr) := Lib.hid (below_of B0.out B0.out.size HBW.out)
      obtain ⟨w3, hw3⟩ : ∃ q, q = wr.setCell ⟨w.heap.size, 3, none⟩ (.slice (some ⟨bk, 0, none⟩) k ck) := ⟨_, rfl⟩
      have L3 : Hid (BlkL w3 w.heap.size [.slice A a.length ca, .slice L l.length cl, .slice D d.length cd, .slice (some ⟨bk, 0, none⟩) k ck, .int .i64 c, .float .f32 hub, .float .f32 tip]) := Lib.hid (by rw [hw3]; exact L0.out.set (i := 3) (by simp) _)
      have LR3 : Hid (BlkL w3 (w.heap.size + 1) [.slice none 0 0, .slice none 0 0, .slice none 0 0, .slice none 0 0, .int .i64 0, .float .f32 0, .float .f32 0]) := Lib.hid (by rw [hw3]; exact LR.out.other (by show w.heap.size ≠ _; omega) _)
      have HO3 : Hid (Own w3 bk xs) := Lib.hid (by rw [hw3]; exact HO.out.setCell (by show w.heap.size ≠ bk; omega) _)
      have B3 : Hid (Below w.heap.size w w3) := Lib.hid (by rw [hw3]; exact BW.out.setCell (Nat.le_refl _) _)
      have k3 := (L0.out.2 3 _ rfl).1
      have f3 := (L0.out.2 3 _ rfl).2
      clear ho hlb HG HM HBW L0 LR HO BW K0 KR hlt hk
      go_upto_region 8 with fail
      rw [← hw3]
      clear hw3 k3 f3
      obtain ⟨k0, k1, k2, k3, k4, k5, k6⟩ := L3.out.sevenT
      have p0 := (LR3.out.2 0 _ rfl).1
      have q0 := (LR3.out.2 0 _ rfl).2
      have p1 := (LR3.out.2 1 _ rfl).1
      have q1 := (LR3.out.2 1 _ rfl).2
      have p2 := (LR3.out.2 2 _ rfl).1
      have q2 := (LR3.out.2 2 _ rfl).2
      have p3 := (LR3.out.2 3 _ rfl).1
      have q3 := (LR3.out.2 3 _ rfl).2
      have p4 := (LR3.out.2 4 _ rfl).1
      have q4 := (LR3.out.2 4 _ rfl).2
      have p5 := (LR3.out.2 5 _ rfl).1
      have q5 := (LR3.out.2 5 _ rfl).2
      have p6 := (LR3.out.2 6 _ rfl).1
      have q6 := (LR3.out.2 6 _ rfl).2
      go_wp2
      refine bodyPost_ret (v := .agg #[.slice A a.length ca, .slice L l.length cl, .slice D d.length cd, .slice (some ⟨bk, 0, none⟩) k ck, .int .i64 c, .float .f32 hub, .float .f32 tip]) ?_ rfl ?_
      · simp [results, Try.results88, go_sem, p0, p1, p2, p3, p4, p5, p6]
      · have hlb := HLB.out
        exact ⟨bk, ck, xs, rfl, (((((((HO3.out).setCell (p := ⟨w.heap.size + 1, 0, none⟩) (by show w.heap.size + 1 ≠ bk; omega) _).setCell (p := ⟨w.heap.size + 1, 1, none⟩) (by show w.heap.size + 1 ≠ bk; omega) _).setCell (p := ⟨w.heap.size + 1, 2, none⟩) (by show w.heap.size + 1 ≠ bk; omega) _).setCell (p := ⟨w.heap.size + 1, 3, none⟩) (by show w.heap.size + 1 ≠ bk; omega) _).setCell (p := ⟨w.heap.size + 1, 4, none⟩) (by show w.heap.size + 1 ≠ bk; omega) _).setCell (p := ⟨w.heap.size + 1, 5, none⟩) (by show w.heap.size + 1 ≠ bk; omega) _).setCell (p := ⟨w.heap.size + 1, 6, none⟩) (by show w.heap.size + 1 ≠ bk; omega) _, by omega, HCL.out, (((((((B3.out).setCell (p := ⟨w.heap.size + 1, 0, none⟩) (by show w.heap.size ≤ w.heap.size + 1; omega) _).setCell (p := ⟨w.heap.size + 1, 1, none⟩) (by show w.heap.size ≤ w.heap.size + 1; omega) _).setCell (p := ⟨w.heap.size + 1, 2, none⟩) (by show w.heap.size ≤ w.heap.size + 1; omega) _).setCell (p := ⟨w.heap.size + 1, 3, none⟩) (by show w.heap.size ≤ w.heap.size + 1; omega) _).setCell (p := ⟨w.heap.size + 1, 4, none⟩) (by show w.heap.size ≤ w.heap.size + 1; omega) _).setCell (p := ⟨w.heap.size + 1, 5, none⟩) (by show w.heap.size ≤ w.heap.size + 1; omega) _).setCell (p := ⟨w.heap.size + 1, 6, none⟩) (by show w.heap.size ≤ w.heap.size + 1; omega) _⟩
set_option maxHeartbeats 4000000 in
set_option maxRecDepth 100000 in
theorem i_ScaleRotor1 (x y z u B1 : Nat) (w : World) (h1 : BlkL w B1 [.float .f32 u]) :
    Calls Try.prog 90 #[.agg #[.float .f32 x, .float .f32 y, .float .f32 z], .pointer (some ⟨B1, 0, none⟩)] w fun e w' => ∃ x' y' z', e = .returned (.agg #[.float .f32 x', .float .f32 y', .float .f32 z']) ∧ canon .f32 x' = canon .f32 (scG u 0 x) ∧ canon .f32 y' = canon .f32 (scG u 1 y) ∧ canon .f32 z' = canon .f32 (scG u 2 z) ∧ Below w.heap.size w w' := by
  obtain ⟨w0, hw0⟩ : ∃ q, q = (w.alloc (.cells #[.float .f32 x, .float .f32 y, .float .f32 z] 47)).alloc (.cells #[.float .f32 0, .float .f32 0, .float .f32 0] 47) := ⟨_, rfl⟩
  have B0 : Hid (Below w.heap.size w w0) := Lib.hid (by rw [hw0]; exact ((Below.refl _ _).alloc (Nat.le_refl _) _).alloc (by simp) _)
  have K0 : Hid (BlkL w0 w.heap.size [.float .f32 x, .float .f32 y, .float .f32 z]) := Lib.hid (by rw [hw0]; exact (blkL_at w #[.float .f32 x, .float .f32 y, .float .f32 z] _ rfl).alloc _)
  have KR : Hid (BlkL w0 (w.heap.size + 1) [.float .f32 0, .float .f32 0, .float .f32 0]) := Lib.hid (by rw [hw0]; exact blkL_at (w.alloc _) #[.float .f32 0, .float .f32 0, .float .f32 0] _ (by simp))
  have k1 := ((h1.below B0.out).2 0 _ rfl).1
  obtain ⟨m0, m1, m2⟩ := K0.out.three
  have p0 := (KR.out.2 0 _ rfl).1
  have q0 := (KR.out.2 0 _ rfl).2
  have p1 := (KR.out.2 1 _ rfl).1
  have q1 := (KR.out.2 1 _ rfl).2
  have p2 := (KR.out.2 2 _ rfl).1
  have q2 := (KR.out.2 2 _ rfl).2
  clear h1
  go_enter Try.func90, Try.ntmps90
  go_upto_region 1 with fail
  rw [← hw0]
  clear hw0
  go_wp2
  obtain ⟨xx, hx⟩ : ∃ q, q = fopV .mul .f32 u x w0 := ⟨_, rfl⟩
  obtain ⟨yy, hy⟩ : ∃ q, q = fopV .mul .f32 u y (w0.drewN (fopN .mul .f32 u x)) := ⟨_, rfl⟩
  rw [← hx, ← hy]
  refine bodyPost_ret (v := .agg #[.float .f32 xx, .float .f32 yy, .float .f32 z]) ?_ rfl ⟨xx, yy, z, rfl, by rw [hx, canon_fopV]; exact (canon_fop ..).symm, by rw [hy, canon_fopV]; exact (canon_fop ..).symm, rfl, (((below_draws B0.out _).setCell (p := ⟨w.heap.size + 1, 0, none⟩) (by show w.heap.size ≤ w.heap.size + 1; omega) _).setCell (p := ⟨w.heap.size + 1, 1, none⟩) (by show w.heap.size ≤ w.heap.size + 1; omega) _).setCell (p := ⟨w.heap.size + 1, 2, none⟩) (by show w.heap.size ≤ w.heap.size + 1; omega) _⟩
  simp [results, Try.results90, go_sem, p0, p1, p2]
set_option maxHeartbeats 8000000 in
set_option maxRecDepth 100000 in
theorem i_changeScaleRotor (A L D S : Option Addr) (ca cl cd n cs : Nat) (c : Int) (hub tip : Nat) (a l d s : List Nat) (u B1 : Nat) (w : World) (h : Rt w A L D S a l d s) (hn : FewR a l d s n) (h1 : 1 ≤ n) (h12 : n ≤ 12) (k1 : BlkL w B1 [.float .f32 u]) :
    Calls Try.prog 88 #[.agg #[.slice A a.length ca, .slice L l.length cl, .slice D d.length cd, .slice S n cs, .int .i64 c, .float .f32 hub, .float .f32 tip], .func (.func 90) #[] #[.pointer (some ⟨B1, 0, none⟩)]] w fun e w' => ∃ bk ck xs, e = .returned (.agg #[.slice A a.length ca, .slice L l.length cl, .slice D d.length cd, .slice (some ⟨bk, 0, none⟩) n ck, .int .i64 c, .float .f32 hub, .float .f32 tip]) ∧ Own w' bk xs ∧ w.heap.size ≤ bk ∧ CL xs (mp3 (scG u) s) ∧ Below w.heap.size w w' := by
  obtain ⟨i0, hi, hz0, hz1, hz2⟩ := info_parts st_infoT
  have HP : Hid (Fl w S s) := Lib.hid h.2
  have HSL := Lib.hid hn.1
  have HC1 := Lib.hid k1
  have HS3 : Hid ((mp3 (scG u) s).length = n * 3 ∧ ∀ k, k < n → (mp3 (scG u) s).getD (k * 3) 0 = scG u 0 (s.getD (k * 3) 0) ∧ (mp3 (scG u) s).getD (k * 3 + 1) 0 = scG u 1 (s.getD (k * 3 + 1) 0) ∧ (mp3 (scG u) s).getD (k * 3 + 2) 0 = scG u 2 (s.getD (k * 3 + 2) 0)) := Lib.hid ⟨(mp3_length _ _).trans HSL.out, fun k hk => by
    have hz := HSL.out
    exact ⟨mp3_0 (by omega), mp3_1 (by omega), mp3_2 (by omega)⟩⟩
  generalize mp3 (scG u) s = S' at HS3 ⊢
  clear h hn k1
  obtain ⟨w0, hw0⟩ : ∃ q, q = (w.alloc (.cells #[.slice A a.length ca, .slice L l.length cl, .slice D d.length cd, .slice S n cs, .int .i64 c, .float .f32 hub, .float .f32 tip] 30)).alloc (.cells #[.slice none 0 0, .slice none 0 0, .slice none 0 0, .slice none 0 0, .int .i64 0, .float .f32 0, .float .f32 0] 30) := ⟨_, rfl⟩
  have B0 : Hid (Below w.heap.size w w0) := Lib.hid (by rw [hw0]; exact ((Below.refl _ _).alloc (Nat.le_refl _) _).alloc (by simp) _)
  have K0 : Hid (BlkL w0 w.heap.size [.slice A a.length ca, .slice L l.length cl, .slice D d.length cd, .slice S n cs, .int .i64 c, .float .f32 hub, .float .f32 tip]) := Lib.hid (by rw [hw0]; exact (blkL_at w #[.slice A a.length ca, .slice L l.length cl, .slice D d.length cd, .slice S n cs, .int .i64 c, .float .f32 hub, .float .f32 tip] _ rfl).alloc _)
  have KR : Hid (BlkL w0 (w.heap.size + 1) [.slice none 0 0, .slice none 0 0, .slice none 0 0, .slice none 0 0, .int .i64 0, .float .f32 0, .float .f32 0]) := Lib.hid (by rw [hw0]; exact blkL_at (w.alloc _) #[.slice none 0 0, .slice none 0 0, .slice none 0 0, .slice none 0 0, .int .i64 0, .float .f32 0, .float .f32 0] _ (by simp))
  have Z0 : Hid (w0.heap.size = w.heap.size + 2) := Lib.hid (by rw [hw0]; simp)
  have hmk := run_make (P := Try.prog) w0 28 47 i0 (.agg #[.float .f32 0, .float .f32 0, .float .f32 0]) (by kernel_rfl) hi hz0 .i64 .i64 0 n (by omega) (by omega) (by rw [hz2]; omega) (by omega)
  rw [hz1] at hmk
  have hmk' : (Instr.makeSlice 28 (.int .i64 0) (.int .i64 n)).run Try.prog w0 = .ok (.slice (some ⟨w0.heap.size, 0, none⟩) 0 n) (w0.alloc (.cells (madeCells #[.float .f32 0, .float .f32 0, .float .f32 0] (n * 3)) 47)) := by
    rw [hmk]; simp [Value.cells]
  clear hmk
  have HST : Hid (Gr3 (w0.alloc (.cells (madeCells #[.float .f32 0, .float .f32 0, .float .f32 0] (n * 3)) 47)) w0.heap.size (.slice (some ⟨w0.heap.size, 0, none⟩) 0 n) 0 []) := Lib.hid (World.ownsRow_made _ _ _ (Nat.le_refl _) (by unfold maxLen; omega) (by simp [madeCells]))
  have HB0 : Hid (Below w0.heap.size w0 (w0.alloc (.cells (madeCells #[.float .f32 0, .float .f32 0, .float .f32 0] (n * 3)) 47))) := Lib.hid ((Below.refl _ _).alloc (Nat.le_refl _) _)
  have k3 := (K0.out.2 3 _ rfl).1
  have k3' := fun o => ((K0.out.alloc o).2 3 _ rfl).1
  go_enter Try.func88, Try.ntmps88
  go_upto_region 1 with fail
  rw [← hw0]
  clear hw0
  go_wp2
  clear hmk' k3 k3'
  go_loopw [5, 15] (fun v i wr => ∃ (k : Nat) (xs : List Nat), k ≤ n ∧ i = .int .i64 k ∧ Hid (Gr3 wr w0.heap.size v k xs) ∧ Hid (Pre3 S' xs k) ∧ Hid (Below w0.heap.size w0 wr)) (fun _ i _ => n - (intOf i).toNat)
  case atStart => exact ⟨0, [], Nat.zero_le _, rfl, HST, Lib.hid (Pre3.nil _), HB0⟩
  case round =>
    obtain ⟨k, xs, hk, rfl, HG, HM, HBW⟩ := hrel
    clear HST HB0
    by_cases hlt : k < n
    · have HB2 : Hid (Below w.heap.size w wr) := Lib.hid (below_of B0.out B0.out.size HBW.out)
      obtain ⟨b, off, rfl, hb, hc0⟩ := HP.out.at_ (k := k * 3) (by rw [HSL.out]; omega)
      have hc1 := HP.out.same rfl (k := k * 3 + 1) (by rw [HSL.out]; omega)
      have hc2 := HP.out.same rfl (k := k * 3 + 2) (by rw [HSL.out]; omega)
      rw [← Nat.add_assoc] at hc1 hc2
      have d0 := HB2.out.cell (p := ⟨b, off + k * 3, none⟩) hb
      have d1 := HB2.out.cell (p := ⟨b, off + k * 3 + 1, none⟩) hb
      have d2 := HB2.out.cell (p := ⟨b, off + k * 3 + 2, none⟩) hb
      rw [hc0] at d0
      rw [hc1] at d1
      rw [hc2] at d2
      have HS := Lib.hid (HS3.out.2 k hlt)
      clear hc0 hc1 hc2 hb
      generalize s.getD (k * 3) 0 = x at d0 HS
      generalize s.getD (k * 3 + 1) 0 = y at d1 HS
      generalize s.getD (k * 3 + 2) 0 = z at d2 HS
      have HAL : Hid (BlkL (wr.alloc (.cells #[.float .f32 x, .float .f32 y, .float .f32 z] 47)) B1 [.float .f32 u]) := Lib.hid ((HC1.out.below HB2.out).alloc _)
      go_wp2_with fail
      refine (i_ScaleRotor1 x y z u B1 _ HAL.out).mono ?_
      rintro e w1 ⟨x', y', z', rfl, e0, e1, e2, b⟩
      have b2 : Below wr.heap.size wr w1 := below_of ((Below.refl _ _).alloc (Nat.le_refl _) _) (by simp) b
      have HG1 := Lib.hid (HG.out.below b2)
      have HB1 : Hid (Below w0.heap.size w0 w1) := Lib.hid (below_of HBW.out HBW.out.size b2)
      have HM1 : Hid (Pre3 S' (xs ++ [x', y', z']) (k + 1)) := Lib.hid (HM.out.snoc (by rw [e0, HS.out.1]) (by rw [e1, HS.out.2.1]) (by rw [e2, HS.out.2.2]))
      clear e0 e1 e2 b b2 HAL d0 d1 d2 HS HG HBW HB2
      have hown := HG1.out
      unfold Gr3 at hown
      go_wp2_with (first
        | (at_builtin; refine wpList_append_own _ rfl _ _ 28 rfl w0.heap.size 47 i0 (.agg #[.float .f32 0, .float .f32 0, .float .f32 0]) 3 12 Try.underlying28 hi hz0 hz1 hz2 rfl (by decide) _ _ _ rfl (hown.alloc _) ⟨_, 0, none⟩ 1 1 [.float .f32 x', .float .f32 y', .float .f32 z'] rfl rfl ?c1 ?c2 ?c3 ?c4 ?c5 ?_)
        | fail)
      case c1 =>
        intro j u hj
        match j, hj with
        | 0, hj => simp at hj; subst hj; exact ((blkL_at w1 #[.float .f32 x', .float .f32 y', .float .f32 z'] _ rfl).2 0 _ rfl).1
        | 1, hj => simp at hj; subst hj; exact ((blkL_at w1 #[.float .f32 x', .float .f32 y', .float .f32 z'] _ rfl).2 1 _ rfl).1
        | 2, hj => simp at hj; subst hj; exact ((blkL_at w1 #[.float .f32 x', .float .f32 y', .float .f32 z'] _ rfl).2 2 _ rfl).1
      case c2 => intro u hu; simp at hu; rcases hu with rfl | rfl | rfl <;> rfl
      case c3 => unfold maxLen; omega
      case c4 => omega
      case c5 => have := HB1.out.size; simp; omega
      · intro v' w2 hown' hgrow _
        obtain ⟨g2, b2⟩ := Gr3.next HG1.out HB1.out (Nat.le_refl _) hown' hgrow
        have HG2 := Lib.hid g2
        have HB2 := Lib.hid b2
        clear g2 b2 hown hown' hgrow
        go_wp2
        go_roundw
        case rel => exact ⟨k + 1, _, by omega, by go_num, HG2, HM1, HB2⟩
        case measure => simp [intOf]; omega
    · have hkk : k = n := by omega
      subst hkk
      obtain ⟨bk, ck, rfl, hlb, ho⟩ := rows_own HG.out h1
      have z0 := Z0.out
      have L0 : Hid (BlkL wr w.heap.size [.slice A a.length ca, .slice L l.length cl, .slice D d.length cd, .slice S k cs, .int .i64 c, .float .f32 hub, .float .f32 tip]) := Lib.hid (K0.out.below HBW.out)
      have LR : Hid (BlkL wr (w.heap.size + 1) [.slice none 0 0, .slice none 0 0, .slice none 0 0, .slice none 0 0, .int .i64 0, .float .f32 0, .float .f32 0]) := Lib.hid (KR.out.below HBW.out)
      have HO := Lib.hid ho
      have HCL : Hid (CL xs S') := Lib.hid (HM.out.cl HS3.out.1)
      have HLB : Hid (w0.heap.size ≤ bk) := Lib.hid hlb
      have BW : Hid (Below w.heap.size w wr) := Lib.hid (below_of B0.out B0.out.size HBW.out)
      obtain ⟨w3, hw3⟩ : ∃ q, q = wr.setCell ⟨w.heap.size, 3, none⟩ (.slice (some ⟨bk, 0, none⟩) k ck) := ⟨_, rfl⟩
      have L3 : Hid (BlkL w3 w.heap.size [.slice A a.length ca, .slice L l.length cl, .slice D d.length cd, .slice (some ⟨bk, 0, none⟩) k ck, .int .i64 c, .float .f32 hub, .float .f32 tip]) := Lib.hid (by rw [hw3]; exact L0.out.set (i := 3) (by simp) _)
      have LR3 : Hid (BlkL w3 (w.heap.size + 1) [.slice none 0 0, .slice none 0 0, .slice none 0 0, .slice none 0 0, .int .i64 0, .float .f32 0, .float .f32 0]) := Lib.hid (by rw [hw3]; exact LR.out.other (by show w.heap.size ≠ _; omega) _)
      have HO3 : Hid (Own w3 bk xs) := Lib.hid (by rw [hw3]; exact HO.out.setCell (by show w.heap.size ≠ bk; omega) _)
      have B3 : Hid (Below w.heap.size w w3) := Lib.hid (by rw [hw3]; exact BW.out.setCell (Nat.le_refl _) _)
      have k3 := (L0.out.2 3 _ rfl).1
      have f3 := (L0.out.2 3 _ rfl).2
      clear ho hlb HG HM HBW L0 LR HO BW K0 KR hlt hk
      go_upto_region 8 with fail
      rw [← hw3]
      clear hw3 k3 f3
      obtain ⟨k0, k1, k2, k3, k4, k5, k6⟩ := L3.out.sevenT
      have p0 := (LR3.out.2 0 _ rfl).1
      have q0 := (LR3.out.2 0 _ rfl).2
      have p1 := (LR3.out.2 1 _ rfl).1
      have q1 := (LR3.out.2 1 _ rfl).2
      have p2 := (LR3.out.2 2 _ rfl).1
      have q2 := (LR3.out.2 2 _ rfl).2
      have p3 := (LR3.out.2 3 _ rfl).1
      have q3 := (LR3.out.2 3 _ rfl).2
      have p4 := (LR3.out.2 4 _ rfl).1
      have q4 := (LR3.out.2 4 _ rfl).2
      have p5 := (LR3.out.2 5 _ rfl).1
      have q5 := (LR3.out.2 5 _ rfl).2
      have p6 := (LR3.out.2 6 _ rfl).1
      have q6 := (LR3.out.2 6 _ rfl).2
      go_wp2
      refine bodyPost_ret (v := .agg #[.slice A a.length ca, .slice L l.length cl, .slice D d.length cd, .slice (some ⟨bk, 0, none⟩) k ck, .int .i64 c, .float .f32 hub, .float .f32 tip]) ?_ rfl ?_
      · simp [results, Try.results88, go_sem, p0, p1, p2, p3, p4, p5, p6]
      · have hlb := HLB.out
        exact ⟨bk, ck, xs, rfl, (((((((HO3.out).setCell (p := ⟨w.heap.size + 1, 0, none⟩) (by show w.heap.size + 1 ≠ bk; omega) _).setCell (p := ⟨w.heap.size + 1, 1, none⟩) (by show w.heap.size + 1 ≠ bk; omega) _).setCell (p := ⟨w.heap.size + 1, 2, none⟩) (by show w.heap.size + 1 ≠ bk; omega) _).setCell (p := ⟨w.heap.size + 1, 3, none⟩) (by show w.heap.size + 1 ≠ bk; omega) _).setCell (p := ⟨w.heap.size + 1, 4, none⟩) (by show w.heap.size + 1 ≠ bk; omega) _).setCell (p := ⟨w.heap.size + 1, 5, none⟩) (by show w.heap.size + 1 ≠ bk; omega) _).setCell (p := ⟨w.heap.size + 1, 6, none⟩) (by show w.heap.size + 1 ≠ bk; omega) _, by omega, HCL.out, (((((((B3.out).setCell (p := ⟨w.heap.size + 1, 0, none⟩) (by show w.heap.size ≤ w.heap.size + 1; omega) _).setCell (p := ⟨w.heap.size + 1, 1, none⟩) (by show w.heap.size ≤ w.heap.size + 1; omega) _).setCell (p := ⟨w.heap.size + 1, 2, none⟩) (by show w.heap.size ≤ w.heap.size + 1; omega) _).setCell (p := ⟨w.heap.size + 1, 3, none⟩) (by show w.heap.size ≤ w.heap.size + 1; omega) _).setCell (p := ⟨w.heap.size + 1, 4, none⟩) (by show w.heap.size ≤ w.heap.size + 1; omega) _).setCell (p := ⟨w.heap.size + 1, 5, none⟩) (by show w.heap.size ≤ w.heap.size + 1; omega) _).setCell (p := ⟨w.heap.size + 1, 6, none⟩) (by show w.heap.size ≤ w.heap.size + 1; omega) _⟩
end Go.Proofs.Ytiiiigldpbomkaa
