/- DropKnot: the specification's side. No statement is proved here. -/
import Derived.Test.YtplofbkollhjpaaPut
import Derived.Test.YtplofbkollhjpaaInv6
import Derived.Test.YtplofbkollhjpaaPos
namespace Go.Proofs.Ytplofbkollhjpaa
open Go Go.RowKit
/-- the first k numbers, less the j-th -/
def drpK (xs : List Nat) (j : Nat) : Nat → List Nat
  | 0 => []
  | k + 1 => if k = j then drpK xs j k else drpK xs j k ++ [xs.getD k 0]
def drpL (xs : List Nat) (i : Int) : List Nat := drpK xs i.toNat xs.length
def drpC (a l d : List Nat) (i : Int) : Bool := validP a l d && (decide (0 ≤ i) && decide (i < a.length))
def drpO (a l d : List Nat) (i : Int) : Bool := drpC a l d i && validP (drpL a i) (drpL l i) (drpL d i)
theorem drpK_length (xs : List Nat) (j : Nat) : ∀ k, (drpK xs j k).length = if j < k then k - 1 else k := by
  intro k
  induction k with
  | zero => simp [drpK]
  | succ k ih =>
    simp only [drpK]
    by_cases e : k = j
    · rw [if_pos e, ih, if_neg (by omega), if_pos (by omega)]; omega
    · rw [if_neg e, List.length_append, ih]
      by_cases h : j < k
      · rw [if_pos h, if_pos (by omega)]; simp; omega
      · rw [if_neg h, if_neg (by omega)]; simp
theorem drpK_take (xs : List Nat) (j : Nat) : ∀ k, k ≤ xs.length → drpK xs j k = xs.take (min j k) ++ (xs.take k).drop (j + 1) := by
  intro k
  induction k with
  | zero => intro _; simp [drpK]
  | succ k ih =>
    intro hk
    have h1 : xs.take (k + 1) = xs.take k ++ [xs.getD k 0] := take_snoc (by omega)
    have hl : (xs.take k).length = k := by rw [List.length_take]; omega
    simp only [drpK]
    by_cases e : k = j
    · subst e
      rw [if_pos rfl, ih (by omega), h1, Nat.min_self, Nat.min_eq_left (by omega)]
      have e1 : (xs.take k ++ [xs.getD k 0]).drop (k + 1) = [] := List.drop_of_length_le (by simp; omega)
      have e2 : (xs.take k).drop (k + 1) = [] := List.drop_of_length_le (by omega)
      rw [e1, e2]
    · rw [if_neg e, ih (by omega), h1]
      by_cases h : j < k
      · rw [Nat.min_eq_left (by omega), Nat.min_eq_left (by omega), List.drop_append_of_le_length (by omega), List.append_assoc]
      · rw [Nat.min_eq_right (by omega), Nat.min_eq_right (by omega), List.drop_of_length_le (by omega), List.append_nil, h1]
        have e1 : (xs.take k ++ [xs.getD k 0]).drop (j + 1) = [] := List.drop_of_length_le (by simp; omega)
        rw [e1, List.append_nil]
theorem drpL_eq {xs : List Nat} {j : Nat} (h : j < xs.length) : drpL xs j = xs.take j ++ xs.drop (j + 1) := by
  unfold drpL
  rw [Int.toNat_natCast, drpK_take xs j _ (Nat.le_refl _), Nat.min_eq_left (by omega), List.take_length]
theorem drpL_length {xs : List Nat} {j : Nat} (h : j < xs.length) : (drpL xs j).length = xs.length - 1 := by
  unfold drpL
  rw [Int.toNat_natCast, drpK_length, if_pos h]
theorem drp_few (a l d : List Nat) (i : Int) : Few (gLp (drpO a l d i) (drpL a i)) (gLp (drpO a l d i) (drpL l i)) (gLp (drpO a l d i) (drpL d i)) :=
  gL_few (fun h => by unfold drpO at h; rw [Bool.and_eq_true] at h; exact sized_of h.2)
theorem drpC_v {a l d : List Nat} {i : Int} (h : validP a l d = false) : drpO a l d i = false := by unfold drpO drpC; rw [h]; rfl
theorem drpC_i {a l d : List Nat} {i : Int} (h : ¬ (0 ≤ i ∧ i < a.length)) : drpO a l d i = false := by
  unfold drpO drpC
  have : (decide (0 ≤ i) && decide (i < a.length)) = false := by rw [← Bool.decide_and]; exact decide_eq_false h
  rw [this, Bool.and_false, Bool.false_and]
theorem drpC_yes {a l d : List Nat} {i : Int} (h : validP a l d = true) (hi : 0 ≤ i ∧ i < a.length) : drpO a l d i = validP (drpL a i) (drpL l i) (drpL d i) := by
  unfold drpO drpC
  rw [h, decide_eq_true hi.1, decide_eq_true hi.2]; rfl
set_option maxHeartbeats 16000000 in
set_option maxRecDepth 100000 in
theorem s_DropKnot (A L D : Option Addr) (ca cl cd : Nat) (a l d : List Nat) (i : Int) (w : World) (h : Pf w A L D a l d) (hn : Few a l d) :
    Calls Try.prog 24 #[.agg #[.slice A a.length ca, .slice L l.length cl, .slice D d.length cd], .int .i64 i] w fun e w' => ∃ (R1 R2 R3 : Option Addr) (c1 c2 c3 g1 g2 g3 : Nat), e = .returned (.tuple #[.agg #[.slice R1 (gLp (drpO a l d i) (drpL a i)).length c1, .slice R2 (gLp (drpO a l d i) (drpL l i)).length c2, .slice R3 (gLp (drpO a l d i) (drpL d i)).length c3], .bool (drpO a l d i)]) ∧ OwnQ w' w.heap.size R1 R2 R3 g1 g2 g3 (gLp (drpO a l d i) (drpL a i)) (gLp (drpO a l d i) (drpL l i)) (gLp (drpO a l d i) (drpL d i)) ∧ Below w.heap.size w w' := by
  have HP := Lib.hid h; clear h
  obtain ⟨w0, hw0⟩ : ∃ x, x = (w.alloc (.cells #[.slice A a.length ca, .slice L l.length cl, .slice D d.length cd] 24)).alloc (.cells #[.slice none 0 0, .slice none 0 0, .slice none 0 0] 24) := ⟨_, rfl⟩
  have K0 : Hid (Blk3 w0 w.heap.size (.slice A a.length ca) (.slice L l.length cl) (.slice D d.length cd)) := Lib.hid (by rw [hw0]; exact (blk3_new w _ _ _ _).alloc _)
  have KR : Hid (BlkL w0 (w.heap.size + 1) [.slice none 0 0, .slice none 0 0, .slice none 0 0]) := Lib.hid (by rw [hw0]; exact blkL_at (w.alloc _) #[.slice none 0 0, .slice none 0 0, .slice none 0 0] _ (by simp))
  have B0 : Hid (Below w.heap.size w w0) := Lib.hid (by rw [hw0]; exact ((Below.refl _ _).alloc (Nat.le_refl _) _).alloc (by simp) _)
  have Z0 : Hid (w0.heap.size = w.heap.size + 2) := Lib.hid (by rw [hw0]; simp)
  have HON : Hid (validP a l d = false → drpO a l d i = false) := Lib.hid drpC_v
  have HOI : Hid (¬ (0 ≤ i ∧ i < a.length) → drpO a l d i = false) := Lib.hid drpC_i
  have HOY : Hid (validP a l d = true → 0 ≤ i ∧ i < a.length → drpO a l d i = validP (drpL a i) (drpL l i) (drpL d i)) := Lib.hid drpC_yes
  have HXA : Hid ((drpL a i) = drpK a i.toNat a.length) := rfl
  have HYA : Hid ((drpL l i) = drpK l i.toNat l.length) := rfl
  have HZA : Hid ((drpL d i) = drpK d i.toNat d.length) := rfl
  generalize drpO a l d i = O at HON HOI HOY ⊢
  generalize (drpL a i) = X at HXA HOY ⊢
  generalize (drpL l i) = Y at HYA HOY ⊢
  generalize (drpL d i) = Z at HZA HOY ⊢
  go_enter Try.func24, Try.ntmps24
  go_wp2_with fail
  rw [← hw0]
  clear hw0
  refine (s_l02Is A L D ca cl cd a l d w.heap.size _ (HP.out.below B0.out) K0.out hn).mono ?_
  rintro e w1 ⟨n1, rfl, hw⟩
  have b1 : Below w0.heap.size w0 w1 := by rw [hw]; exact below_draws (Below.refl _ _) _
  have L0 : Hid (Blk3 w1 w.heap.size (.slice A a.length ca) (.slice L l.length cl) (.slice D d.length cd)) := Lib.hid (K0.out.below b1)
  have LR : Hid (BlkL w1 (w.heap.size + 1) [.slice none 0 0, .slice none 0 0, .slice none 0 0]) := Lib.hid (KR.out.below b1)
  have B1 : Hid (Below w.heap.size w w1) := Lib.hid (below_of B0.out B0.out.size b1)
  have Z1 : Hid (w.heap.size + 2 ≤ w1.heap.size) := Lib.hid (by have := b1.size; have := Z0.out; omega)
  clear b1 hw K0 KR
  cases v0 : validP a l d
  · have HN := Lib.hid (HON.out v0)
    clear v0
    have p0 := (LR.out.2 0 _ rfl).1
    have q0 := (LR.out.2 0 _ rfl).2
    have p1 := (LR.out.2 1 _ rfl).1
    have q1 := (LR.out.2 1 _ rfl).2
    have p2 := (LR.out.2 2 _ rfl).1
    have q2 := (LR.out.2 2 _ rfl).2
    go_wp2
    refine bodyPost_ret (v := .tuple #[.agg #[.slice none 0 0, .slice none 0 0, .slice none 0 0], .bool false]) ?_ rfl ?_
    · simp [results, Try.results24, go_sem, p0, p1, p2]
    · rw [HN.out]
      exact ⟨none, none, none, 0, 0, 0, 0, 1, 2, rfl, OwnQ.none _ _, (((B1.out).setCell (p := ⟨w.heap.size + 1, 0, none⟩) (by show w.heap.size ≤ w.heap.size + 1; omega) _).setCell (p := ⟨w.heap.size + 1, 1, none⟩) (by show w.heap.size ≤ w.heap.size + 1; omega) _).setCell (p := ⟨w.heap.size + 1, 2, none⟩) (by show w.heap.size ≤ w.heap.size + 1; omega) _⟩
  · obtain ⟨s1, s2, s3, s4⟩ := sized_of v0
    have V0 := Lib.hid v0
    have HS3 := Lib.hid s3
    have HS4 := Lib.hid s4
    clear v0 s3 s4
    obtain ⟨-, ⟨k0, k1, k2⟩, -, -, -⟩ := L0.out
    go_wp2_with fail
    refine (s_l00In _ _ _ _).mono ?_
    rintro e wq ⟨rfl, hwq⟩
    rw [hwq]
    clear hwq k0 k1 k2
    by_cases hi : 0 ≤ i ∧ i < a.length
    case neg =>
      have HN := Lib.hid (HOI.out hi)
      rw [show (decide ((0 : Int) ≤ i) && decide (i ≤ (a.length : Int) - 1)) = false by rw [← Bool.decide_and]; exact decide_eq_false (by omega)]
      have p0 := (LR.out.2 0 _ rfl).1
      have q0 := (LR.out.2 0 _ rfl).2
      have p1 := (LR.out.2 1 _ rfl).1
      have q1 := (LR.out.2 1 _ rfl).2
      have p2 := (LR.out.2 2 _ rfl).1
      have q2 := (LR.out.2 2 _ rfl).2
      go_wp2
      refine bodyPost_ret (v := .tuple #[.agg #[.slice none 0 0, .slice none 0 0, .slice none 0 0], .bool false]) ?_ rfl ?_
      · simp [results, Try.results24, go_sem, p0, p1, p2]
      · rw [HN.out]
        exact ⟨none, none, none, 0, 0, 0, 0, 1, 2, rfl, OwnQ.none _ _, (((B1.out).setCell (p := ⟨w.heap.size + 1, 0, none⟩) (by show w.heap.size ≤ w.heap.size + 1; omega) _).setCell (p := ⟨w.heap.size + 1, 1, none⟩) (by show w.heap.size ≤ w.heap.size + 1; omega) _).setCell (p := ⟨w.heap.size + 1, 2, none⟩) (by show w.heap.size ≤ w.heap.size + 1; omega) _⟩
    case pos =>
      have HO := Lib.hid (HOY.out V0.out hi)
      rw [show (decide ((0 : Int) ≤ i) && decide (i ≤ (a.length : Int) - 1)) = true by rw [← Bool.decide_and]; exact decide_eq_true (by omega)]
      obtain ⟨j, rfl⟩ : ∃ j : Nat, i = j := ⟨i.toNat, by omega⟩
      have hj : j < a.length := by omega
      rw [Int.toNat_natCast] at HXA HYA HZA
      clear hi
      have hl3 := HS3.out
      have hl4 := HS4.out
      obtain ⟨ba, oa, rfl, hba, -⟩ := (HP.out.1.below B1.out).at_ (k := 0) (by omega)
      obtain ⟨bl, ol, rfl, hbl, -⟩ := (HP.out.2.1.below B1.out).at_ (k := 0) (by omega)
      obtain ⟨bd, od, rfl, hbd, -⟩ := (HP.out.2.2.below B1.out).at_ (k := 0) (by omega)
      clear hl3 hl4
      go_wp2_with fail
      refine (s_l02New _).mono ?_
      rintro e w2 ⟨u1, u2, u3, rfl, b2, g2⟩
      have L2 := Lib.hid (L0.out.below b2)
      have LR2 : Hid (BlkL w2 (w.heap.size + 1) [.slice none 0 0, .slice none 0 0, .slice none 0 0]) := Lib.hid (LR.out.below b2)
      have B2 : Hid (Below w.heap.size w w2) := Lib.hid (below_of B1.out B1.out.size b2)
      have Z2 : Hid (w1.heap.size ≤ w2.heap.size) := Lib.hid b2.size
      have HQ0 := fun t => Lib.hid (g2.pq t)
      clear b2 g2
      go_wp2
      go_loopw [7] (fun i wr => ∃ k : Nat, k ≤ a.length ∧ i = .int .i64 k ∧ Hid (PQ w1 w2.heap.size (drpK a j k) (drpK l j k) (drpK d j k) wr)) (fun i _ => a.length - (intOf i).toNat)
      case atStart => exact ⟨0, Nat.zero_le _, rfl, HQ0 _⟩
      case round =>
        obtain ⟨k, hk, rfl, HQ⟩ := hrel
        clear HQ0
        obtain ⟨-, ⟨k0, k1, k2⟩, -, -, -⟩ := L0.out.below HQ.out.below
        by_cases hlt : k < a.length
        · have hlt2 : k < l.length := by have := HS3.out; omega
          have hlt3 : k < d.length := by have := HS4.out; omega
          by_cases hkj : k = j
          · have hne : ((k : Int) != (j : Int)) = false := by simp; omega
            have HQ2 : Hid (PQ w1 w2.heap.size (drpK a j (k + 1)) (drpK l j (k + 1)) (drpK d j (k + 1)) wr) := Lib.hid (by simp only [drpK, if_pos hkj]; exact HQ.out)
            go_wp2
            go_roundw
            case rel => exact ⟨k + 1, by omega, by go_num, HQ2⟩
            case measure => simp [intOf]; omega
          · have hne : ((k : Int) != (j : Int)) = true := by simp; omega
            have HCA : Hid (∀ ww, Below w1.heap.size w1 ww → ww.cell? ⟨ba, oa + k, none⟩ = some (.float .f32 (a.getD k 0))) := Lib.hid (fun ww hb => ((HP.out.1.below B1.out).below hb).same rfl hlt)
            have HCL : Hid (∀ ww, Below w1.heap.size w1 ww → ww.cell? ⟨bl, ol + k, none⟩ = some (.float .f32 (l.getD k 0))) := Lib.hid (fun ww hb => ((HP.out.2.1.below B1.out).below hb).same rfl hlt2)
            have HCD : Hid (∀ ww, Below w1.heap.size w1 ww → ww.cell? ⟨bd, od + k, none⟩ = some (.float .f32 (d.getD k 0))) := Lib.hid (fun ww hb => ((HP.out.2.2.below B1.out).below hb).same rfl hlt3)
            have HTX : Hid (drpK a j (k + 1) = drpK a j k ++ [a.getD k 0]) := Lib.hid (by simp only [drpK, if_neg hkj])
            have HTY : Hid (drpK l j (k + 1) = drpK l j k ++ [l.getD k 0]) := Lib.hid (by simp only [drpK, if_neg hkj])
            have HTZ : Hid (drpK d j (k + 1) = drpK d j k ++ [d.getD k 0]) := Lib.hid (by simp only [drpK, if_neg hkj])
            have HLN : Hid ((drpK a j k).length ≤ 1048576 ∧ (drpK l j k).length ≤ 1048576 ∧ (drpK d j k).length ≤ 1048576) := Lib.hid (by simp only [drpK_length]; split <;> omega)
            generalize drpK a j k = X0 at HQ HTX HLN
            generalize drpK l j k = Y0 at HQ HTY HLN
            generalize drpK d j k = Z0 at HQ HTZ HLN
            obtain ⟨x', hx'⟩ : ∃ x, x = a.getD k 0 := ⟨_, rfl⟩
            have HX1 : Hid (canon .f32 x' = canon .f32 (a.getD k 0)) := Lib.hid (by rw [hx'])
            rw [← hx'] at HTX
            obtain ⟨y', hy'⟩ : ∃ x, x = l.getD k 0 := ⟨_, rfl⟩
            have HY1 : Hid (canon .f32 y' = canon .f32 (l.getD k 0)) := Lib.hid (by rw [hy'])
            rw [← hy'] at HTY
            obtain ⟨z', hz'⟩ : ∃ x, x = d.getD k 0 := ⟨_, rfl⟩
            have HZ1 : Hid (canon .f32 z' = canon .f32 (d.getD k 0)) := Lib.hid (by rw [hz'])
            rw [← hz'] at HTZ
            clear hx' hy' hz'
            generalize a.getD k 0 = x at HCA HX1
            generalize l.getD k 0 = y at HCL HY1
            generalize d.getD k 0 = z at HCD HZ1
            go_wp2_with fail
            refine wp_region_inv6 (fun iq _ v => match iq with
              | 0 => v = .pointer (some ⟨w.heap.size, 0, none⟩)
              | 1 => v = .slice (some ⟨ba, oa, none⟩) a.length ca
              | 2 => v = .int .i64 k
              | 3 => v = .pointer (some ⟨ba, oa + k, none⟩)
              | 4 => v = .float .f32 x
              | 5 => v = .pointer (some ⟨w.heap.size, 1, none⟩)
              | 6 => v = .slice (some ⟨bl, ol, none⟩) l.length cl
              | 7 => v = .int .i64 k
              | 8 => v = .pointer (some ⟨bl, ol + k, none⟩)
              | 9 => v = .float .f32 y
              | 10 => v = .pointer (some ⟨w.heap.size, 2, none⟩)
              | 11 => v = .slice (some ⟨bd, od, none⟩) d.length cd
              | 12 => v = .int .i64 k
              | 13 => v = .pointer (some ⟨bd, od + k, none⟩)
              | 14 => v = .float .f32 z
              | 15 => v = .tuple #[]
              | _ => False) (CF 15 w1 w2.heap.size X0 Y0 Z0 (X0 ++ [x']) (Y0 ++ [y']) (Z0 ++ [z'])) (by kernel_rfl) (by kernel_rfl) (CF.start (HQ.out.draws 1)) ?hop ?hend
            case hop =>
              intro q o hq listed act w3 hI hnot hcl hall
              have hC := hI.cls
              have hB := hC.below
              obtain ⟨-, ⟨kx0, kx1, kx2⟩, -, -, -⟩ := L0.out.below hB
              have hca := HCA.out _ hB
              have hcl2 := HCL.out _ hB
              have hcd := HCD.out _ hB
              rcases q with _ | _ | _ | _ | _ | _ | _ | _ | _ | _ | _ | _ | _ | _ | _ | _ | q
              · simp at hq; subst hq
                have g2 : act.tmps[2]?.getD undef = .pointer (some ⟨w.heap.size, 0, none⟩) := hI.kept 2 (by kernel_rfl)
                have hC2 := hC.keep (i := 0) hI.len (by decide) (by decide)
                clear hI hall hnot hcl hC hB
                refine .inl ⟨wanted_none rfl, ?_⟩
                unfold Oper.wp
                go_simp
                all_goals first | exact ⟨_, rfl, fun _ _ _ h => h, rfl, hC2⟩ | exact ⟨_, rfl, rfl, hC2⟩ | exact ⟨fun _ _ _ h => h, rfl, hC2⟩ | exact ⟨rfl, hC2⟩ | exact ⟨_, rfl, hC2⟩ | exact hC2
              · simp at hq; subst hq
                have g31 : act.tmps[31]?.getD undef = .pointer (some ⟨w.heap.size, 0, none⟩) := hI.has 0 31 rfl (hall ⟨0, .data⟩ (by simp) rfl)
                have hC2 := hC.keep (i := 1) hI.len (by decide) (by decide)
                clear hI hall hnot hcl hC hB
                refine .inl ⟨wanted_none rfl, ?_⟩
                unfold Oper.wp
                go_simp
                all_goals first | exact ⟨_, rfl, fun _ _ _ h => h, rfl, hC2⟩ | exact ⟨_, rfl, rfl, hC2⟩ | exact ⟨fun _ _ _ h => h, rfl, hC2⟩ | exact ⟨rfl, hC2⟩ | exact ⟨_, rfl, hC2⟩ | exact hC2
              · simp at hq; subst hq
                have g7 : act.tmps[7]?.getD undef = .int .i64 k := hI.kept 7 (by kernel_rfl)
                have hC2 := hC.keep (i := 2) hI.len (by decide) (by decide)
                clear hI hall hnot hcl hC hB
                refine .inl ⟨wanted_none rfl, ?_⟩
                unfold Oper.wp
                go_simp
                all_goals first | exact ⟨_, rfl, fun _ _ _ h => h, rfl, hC2⟩ | exact ⟨_, rfl, rfl, hC2⟩ | exact ⟨fun _ _ _ h => h, rfl, hC2⟩ | exact ⟨rfl, hC2⟩ | exact ⟨_, rfl, hC2⟩ | exact hC2
              · simp at hq; subst hq
                have g32 : act.tmps[32]?.getD undef = .slice (some ⟨ba, oa, none⟩) a.length ca := hI.has 1 32 rfl (hall ⟨1, .data⟩ (by simp) rfl)
                have g33 : act.tmps[33]?.getD undef = .int .i64 k := hI.has 2 33 rfl (hall ⟨2, .data⟩ (by simp) rfl)
                have hC2 := hC.keep (i := 3) hI.len (by decide) (by decide)
                clear hI hall hnot hcl hC hB
                refine .inl ⟨wanted_none rfl, ?_⟩
                unfold Oper.wp
                go_simp
                all_goals first | exact ⟨_, rfl, fun _ _ _ h => h, rfl, hC2⟩ | exact ⟨_, rfl, rfl, hC2⟩ | exact ⟨fun _ _ _ h => h, rfl, hC2⟩ | exact ⟨rfl, hC2⟩ | exact ⟨_, rfl, hC2⟩ | exact hC2
              · simp at hq; subst hq
                have g34 : act.tmps[34]?.getD undef = .pointer (some ⟨ba, oa + k, none⟩) := hI.has 3 34 rfl (hall ⟨3, .data⟩ (by simp) rfl)
                have hC2 := hC.keep (i := 4) hI.len (by decide) (by decide)
                clear hI hall hnot hcl hC hB
                refine .inl ⟨wanted_none rfl, ?_⟩
                unfold Oper.wp
                go_simp
                all_goals first | exact ⟨_, rfl, fun _ _ _ h => h, rfl, hC2⟩ | exact ⟨_, rfl, rfl, hC2⟩ | exact ⟨fun _ _ _ h => h, rfl, hC2⟩ | exact ⟨rfl, hC2⟩ | exact ⟨_, rfl, hC2⟩ | exact hC2
              · simp at hq; subst hq
                have g2 : act.tmps[2]?.getD undef = .pointer (some ⟨w.heap.size, 0, none⟩) := hI.kept 2 (by kernel_rfl)
                have hC2 := hC.keep (i := 5) hI.len (by decide) (by decide)
                clear hI hall hnot hcl hC hB
                refine .inl ⟨wanted_none rfl, ?_⟩
                unfold Oper.wp
                go_simp
                all_goals first | exact ⟨_, rfl, fun _ _ _ h => h, rfl, hC2⟩ | exact ⟨_, rfl, rfl, hC2⟩ | exact ⟨fun _ _ _ h => h, rfl, hC2⟩ | exact ⟨rfl, hC2⟩ | exact ⟨_, rfl, hC2⟩ | exact hC2
              · simp at hq; subst hq
                have g36 : act.tmps[36]?.getD undef = .pointer (some ⟨w.heap.size, 1, none⟩) := hI.has 5 36 rfl (hall ⟨5, .data⟩ (by simp) rfl)
                have hC2 := hC.keep (i := 6) hI.len (by decide) (by decide)
                clear hI hall hnot hcl hC hB
                refine .inl ⟨wanted_none rfl, ?_⟩
                unfold Oper.wp
                go_simp
                all_goals first | exact ⟨_, rfl, fun _ _ _ h => h, rfl, hC2⟩ | exact ⟨_, rfl, rfl, hC2⟩ | exact ⟨fun _ _ _ h => h, rfl, hC2⟩ | exact ⟨rfl, hC2⟩ | exact ⟨_, rfl, hC2⟩ | exact hC2
              · simp at hq; subst hq
                have g7 : act.tmps[7]?.getD undef = .int .i64 k := hI.kept 7 (by kernel_rfl)
                have hC2 := hC.keep (i := 7) hI.len (by decide) (by decide)
                clear hI hall hnot hcl hC hB
                refine .inl ⟨wanted_none rfl, ?_⟩
                unfold Oper.wp
                go_simp
                all_goals first | exact ⟨_, rfl, fun _ _ _ h => h, rfl, hC2⟩ | exact ⟨_, rfl, rfl, hC2⟩ | exact ⟨fun _ _ _ h => h, rfl, hC2⟩ | exact ⟨rfl, hC2⟩ | exact ⟨_, rfl, hC2⟩ | exact hC2
              · simp at hq; subst hq
                have g37 : act.tmps[37]?.getD undef = .slice (some ⟨bl, ol, none⟩) l.length cl := hI.has 6 37 rfl (hall ⟨6, .data⟩ (by simp) rfl)
                have g38 : act.tmps[38]?.getD undef = .int .i64 k := hI.has 7 38 rfl (hall ⟨7, .data⟩ (by simp) rfl)
                have hC2 := hC.keep (i := 8) hI.len (by decide) (by decide)
                clear hI hall hnot hcl hC hB
                refine .inl ⟨wanted_none rfl, ?_⟩
                unfold Oper.wp
                go_simp
                all_goals first | exact ⟨_, rfl, fun _ _ _ h => h, rfl, hC2⟩ | exact ⟨_, rfl, rfl, hC2⟩ | exact ⟨fun _ _ _ h => h, rfl, hC2⟩ | exact ⟨rfl, hC2⟩ | exact ⟨_, rfl, hC2⟩ | exact hC2
              · simp at hq; subst hq
                have g39 : act.tmps[39]?.getD undef = .pointer (some ⟨bl, ol + k, none⟩) := hI.has 8 39 rfl (hall ⟨8, .data⟩ (by simp) rfl)
                have hC2 := hC.keep (i := 9) hI.len (by decide) (by decide)
                clear hI hall hnot hcl hC hB
                refine .inl ⟨wanted_none rfl, ?_⟩
                unfold Oper.wp
                go_simp
                all_goals first | exact ⟨_, rfl, fun _ _ _ h => h, rfl, hC2⟩ | exact ⟨_, rfl, rfl, hC2⟩ | exact ⟨fun _ _ _ h => h, rfl, hC2⟩ | exact ⟨rfl, hC2⟩ | exact ⟨_, rfl, hC2⟩ | exact hC2
              · simp at hq; subst hq
                have g2 : act.tmps[2]?.getD undef = .pointer (some ⟨w.heap.size, 0, none⟩) := hI.kept 2 (by kernel_rfl)
                have hC2 := hC.keep (i := 10) hI.len (by decide) (by decide)
                clear hI hall hnot hcl hC hB
                refine .inl ⟨wanted_none rfl, ?_⟩
                unfold Oper.wp
                go_simp
                all_goals first | exact ⟨_, rfl, fun _ _ _ h => h, rfl, hC2⟩ | exact ⟨_, rfl, rfl, hC2⟩ | exact ⟨fun _ _ _ h => h, rfl, hC2⟩ | exact ⟨rfl, hC2⟩ | exact ⟨_, rfl, hC2⟩ | exact hC2
              · simp at hq; subst hq
                have g41 : act.tmps[41]?.getD undef = .pointer (some ⟨w.heap.size, 2, none⟩) := hI.has 10 41 rfl (hall ⟨10, .data⟩ (by simp) rfl)
                have hC2 := hC.keep (i := 11) hI.len (by decide) (by decide)
                clear hI hall hnot hcl hC hB
                refine .inl ⟨wanted_none rfl, ?_⟩
                unfold Oper.wp
                go_simp
                all_goals first | exact ⟨_, rfl, fun _ _ _ h => h, rfl, hC2⟩ | exact ⟨_, rfl, rfl, hC2⟩ | exact ⟨fun _ _ _ h => h, rfl, hC2⟩ | exact ⟨rfl, hC2⟩ | exact ⟨_, rfl, hC2⟩ | exact hC2
              · simp at hq; subst hq
                have g7 : act.tmps[7]?.getD undef = .int .i64 k := hI.kept 7 (by kernel_rfl)
                have hC2 := hC.keep (i := 12) hI.len (by decide) (by decide)
                clear hI hall hnot hcl hC hB
                refine .inl ⟨wanted_none rfl, ?_⟩
                unfold Oper.wp
                go_simp
                all_goals first | exact ⟨_, rfl, fun _ _ _ h => h, rfl, hC2⟩ | exact ⟨_, rfl, rfl, hC2⟩ | exact ⟨fun _ _ _ h => h, rfl, hC2⟩ | exact ⟨rfl, hC2⟩ | exact ⟨_, rfl, hC2⟩ | exact hC2
              · simp at hq; subst hq
                have g42 : act.tmps[42]?.getD undef = .slice (some ⟨bd, od, none⟩) d.length cd := hI.has 11 42 rfl (hall ⟨11, .data⟩ (by simp) rfl)
                have g43 : act.tmps[43]?.getD undef = .int .i64 k := hI.has 12 43 rfl (hall ⟨12, .data⟩ (by simp) rfl)
                have hC2 := hC.keep (i := 13) hI.len (by decide) (by decide)
                clear hI hall hnot hcl hC hB
                refine .inl ⟨wanted_none rfl, ?_⟩
                unfold Oper.wp
                go_simp
                all_goals first | exact ⟨_, rfl, fun _ _ _ h => h, rfl, hC2⟩ | exact ⟨_, rfl, rfl, hC2⟩ | exact ⟨fun _ _ _ h => h, rfl, hC2⟩ | exact ⟨rfl, hC2⟩ | exact ⟨_, rfl, hC2⟩ | exact hC2
              · simp at hq; subst hq
                have g44 : act.tmps[44]?.getD undef = .pointer (some ⟨bd, od + k, none⟩) := hI.has 13 44 rfl (hall ⟨13, .data⟩ (by simp) rfl)
                have hC2 := hC.keep (i := 14) hI.len (by decide) (by decide)
                clear hI hall hnot hcl hC hB
                refine .inl ⟨wanted_none rfl, ?_⟩
                unfold Oper.wp
                go_simp
                all_goals first | exact ⟨_, rfl, fun _ _ _ h => h, rfl, hC2⟩ | exact ⟨_, rfl, rfl, hC2⟩ | exact ⟨fun _ _ _ h => h, rfl, hC2⟩ | exact ⟨rfl, hC2⟩ | exact ⟨_, rfl, hC2⟩ | exact hC2
              · simp at hq; subst hq
                have g6 : act.tmps[6]?.getD undef = .pointer (some ⟨w2.heap.size, 0, none⟩) := hI.kept 6 (by kernel_rfl)
                have g35 : act.tmps[35]?.getD undef = .float .f32 x := hI.has 4 35 rfl (hall ⟨4, .data⟩ (by simp) rfl)
                have g40 : act.tmps[40]?.getD undef = .float .f32 y := hI.has 9 40 rfl (hall ⟨9, .data⟩ (by simp) rfl)
                have g45 : act.tmps[45]?.getD undef = .float .f32 z := hI.has 14 45 rfl (hall ⟨14, .data⟩ (by simp) rfl)
                have hlen := hI.len
                have hC1 := hC.ahead hnot
                clear hI hall hnot hcl hC hB
                refine .inl ⟨wanted_none rfl, ?_⟩
                unfold Oper.wp
                go_simp
                refine (s_l02Put _ _ _ x' y' z' _ _ _ _ w1 w3 hC1 HLN.out ((rfl : canon .f32 _ = _).trans HX1.out.symm) ((rfl : canon .f32 _ = _).trans HY1.out.symm) ((rfl : canon .f32 _ = _).trans HZ1.out.symm)).mono ?_
                rintro e w4 ⟨rfl, hQ⟩
                first | exact ⟨_, rfl, fun _ _ _ h => h, rfl, CF.call hQ hlen (by decide)⟩ | exact ⟨_, rfl, rfl, CF.call hQ hlen (by decide)⟩ | exact ⟨rfl, CF.call hQ hlen (by decide)⟩ | exact CF.call hQ hlen (by decide)
              · simp at hq
            case hend =>
              intro listed act w3 hI hall
              have hC := hI.cls
              have hB := hC.below
              obtain ⟨-, ⟨kx0, kx1, kx2⟩, -, -, -⟩ := L0.out.below hB
              have hca := HCA.out _ hB
              have hcl2 := HCL.out _ hB
              have hcd := HCD.out _ hB
              have hQ := (hI.cls).done (hall 15 (by decide))
              have g7 := hI.kept 7 (by kernel_rfl)
              conv at g7 => rhs; whnf
              have g0 := hI.kept 0 (by kernel_rfl)
              conv at g0 => rhs; whnf
              have g1 := hI.kept 1 (by kernel_rfl)
              conv at g1 => rhs; whnf
              have g2 := hI.kept 2 (by kernel_rfl)
              conv at g2 => rhs; whnf
              have g3 : act.tmps[3]?.getD undef = undef := hI.kept 3 (by kernel_rfl)
              have g4 := hI.kept 4 (by kernel_rfl)
              conv at g4 => rhs; whnf
              have g5 := hI.kept 5 (by kernel_rfl)
              conv at g5 => rhs; whnf
              have g6 := hI.kept 6 (by kernel_rfl)
              conv at g6 => rhs; whnf
              have g8 := hI.kept 8 (by kernel_rfl)
              conv at g8 => rhs; whnf
              have g9 := hI.kept 9 (by kernel_rfl)
              conv at g9 => rhs; whnf
              have g10 := hI.kept 10 (by kernel_rfl)
              conv at g10 => rhs; whnf
              have g11 := hI.kept 11 (by kernel_rfl)
              conv at g11 => rhs; whnf
              have g12 := hI.kept 12 (by kernel_rfl)
              conv at g12 => rhs; whnf
              have g13 := hI.kept 13 (by kernel_rfl)
              conv at g13 => rhs; whnf
              have g14 := hI.kept 14 (by kernel_rfl)
              conv at g14 => rhs; whnf
              have g15 := hI.kept 15 (by kernel_rfl)
              conv at g15 => rhs; whnf
              have g16 := hI.kept 16 (by kernel_rfl)
              conv at g16 => rhs; whnf
              have g17 := hI.kept 17 (by kernel_rfl)
              conv at g17 => rhs; whnf
              have g18 := hI.kept 18 (by kernel_rfl)
              conv at g18 => rhs; whnf
              have g20 := hI.kept 20 (by kernel_rfl)
              conv at g20 => rhs; whnf
              have g47 : act.tmps[47]?.getD undef = undef := hI.kept 47 (by kernel_rfl)
              have g48 : act.tmps[48]?.getD undef = undef := hI.kept 48 (by kernel_rfl)
              have g49 : act.tmps[49]?.getD undef = undef := hI.kept 49 (by kernel_rfl)
              have g50 : act.tmps[50]?.getD undef = undef := hI.kept 50 (by kernel_rfl)
              have g19 : act.tmps[19]?.getD undef = undef := hI.kept 19 (by kernel_rfl)
              have hsz : act.tmps.size = 51 := hI.size.trans (by kernel_rfl)
              have hd := hI.defers
              clear hI hall
              obtain ⟨tt, dd⟩ := act
              simp only at g0 g1 g2 g3 g4 g5 g6 g7 g8 g9 g10 g11 g12 g13 g14 g15 g16 g17 g18 g19 g20 g47 g48 g49 g50 hsz hd
              subst hd
              have hl : tt = #[tt[0]?.getD undef, tt[1]?.getD undef, tt[2]?.getD undef, tt[3]?.getD undef, tt[4]?.getD undef, tt[5]?.getD undef, tt[6]?.getD undef, tt[7]?.getD undef, tt[8]?.getD undef, tt[9]?.getD undef, tt[10]?.getD undef, tt[11]?.getD undef, tt[12]?.getD undef, tt[13]?.getD undef, tt[14]?.getD undef, tt[15]?.getD undef, tt[16]?.getD undef, tt[17]?.getD undef, tt[18]?.getD undef, tt[19]?.getD undef, tt[20]?.getD undef, tt[21]?.getD undef, tt[22]?.getD undef, tt[23]?.getD undef, tt[24]?.getD undef, tt[25]?.getD undef, tt[26]?.getD undef, tt[27]?.getD undef, tt[28]?.getD undef, tt[29]?.getD undef, tt[30]?.getD undef, tt[31]?.getD undef, tt[32]?.getD undef, tt[33]?.getD undef, tt[34]?.getD undef, tt[35]?.getD undef, tt[36]?.getD undef, tt[37]?.getD undef, tt[38]?.getD undef, tt[39]?.getD undef, tt[40]?.getD undef, tt[41]?.getD undef, tt[42]?.getD undef, tt[43]?.getD undef, tt[44]?.getD undef, tt[45]?.getD undef, tt[46]?.getD undef, tt[47]?.getD undef, tt[48]?.getD undef, tt[49]?.getD undef, tt[50]?.getD undef] := (arr_lit hsz).trans rfl
              rw [g0, g1, g2, g3, g4, g5, g6, g7, g8, g9, g10, g11, g12, g13, g14, g15, g16, g17, g18, g19, g20, g47, g48, g49, g50] at hl
              clear g0 g1 g2 g3 g4 g5 g6 g7 g8 g9 g10 g11 g12 g13 g14 g15 g16 g17 g18 g19 g20 g47 g48 g49 g50 hsz
              generalize tt[21]?.getD undef = y21 at hl
              generalize tt[22]?.getD undef = y22 at hl
              generalize tt[23]?.getD undef = y23 at hl
              generalize tt[24]?.getD undef = y24 at hl
              generalize tt[25]?.getD undef = y25 at hl
              generalize tt[26]?.getD undef = y26 at hl
              generalize tt[27]?.getD undef = y27 at hl
              generalize tt[28]?.getD undef = y28 at hl
              generalize tt[29]?.getD undef = y29 at hl
              generalize tt[30]?.getD undef = y30 at hl
              generalize tt[31]?.getD undef = y31 at hl
              generalize tt[32]?.getD undef = y32 at hl
              generalize tt[33]?.getD undef = y33 at hl
              generalize tt[34]?.getD undef = y34 at hl
              generalize tt[35]?.getD undef = y35 at hl
              generalize tt[36]?.getD undef = y36 at hl
              generalize tt[37]?.getD undef = y37 at hl
              generalize tt[38]?.getD undef = y38 at hl
              generalize tt[39]?.getD undef = y39 at hl
              generalize tt[40]?.getD undef = y40 at hl
              generalize tt[41]?.getD undef = y41 at hl
              generalize tt[42]?.getD undef = y42 at hl
              generalize tt[43]?.getD undef = y43 at hl
              generalize tt[44]?.getD undef = y44 at hl
              generalize tt[45]?.getD undef = y45 at hl
              generalize tt[46]?.getD undef = y46 at hl
              subst hl
              have HQ2 := Lib.hid hQ
              clear hQ
              go_wp2
              go_roundw
              case rel => exact ⟨k + 1, by omega, by go_num, Lib.hid (by rw [HTX.out, HTY.out, HTZ.out]; exact HQ2.out)⟩
              case measure => simp [intOf]; omega
        · have hkk : k = a.length := by omega
          have e1 : drpK a j k = X := by rw [HXA.out, hkk]
          have e2 : drpK l j k = Y := by rw [HYA.out, hkk, HS3.out]
          have e3 : drpK d j k = Z := by rw [HZA.out, hkk, HS4.out]
          rw [e1, e2, e3] at HQ
          have HXL : Hid (X.length = a.length - 1) := Lib.hid (by rw [HXA.out, drpK_length, if_pos hj])
          have HYL : Hid (Y.length = a.length - 1) := Lib.hid (by rw [HYA.out, drpK_length, HS3.out, if_pos hj])
          have HZL : Hid (Z.length = a.length - 1) := Lib.hid (by rw [HZA.out, drpK_length, HS4.out, if_pos hj])
          clear e1 e2 e3 k0 k1 k2
          obtain ⟨v1, v2, v3, xs, ys, zs, hF, c1, c2, c3⟩ := HQ.out
          have hnx : xs ≠ [] := by intro e; have h1 := congrArg List.length e; have h2 := c1.1; have h3 := HXL.out; simp only [List.length_nil] at h1; omega
          have hny : ys ≠ [] := by intro e; have h1 := congrArg List.length e; have h2 := c2.1; have h3 := HYL.out; simp only [List.length_nil] at h1; omega
          have hnz : zs ≠ [] := by intro e; have h1 := congrArg List.length e; have h2 := c3.1; have h3 := HZL.out; simp only [List.length_nil] at h1; omega
          obtain ⟨R1, R2, R3, d1, d2, d3, g1, g2, g3, rfl, rfl, rfl, hown⟩ := hF.g.own hnx hny hnz
          have BL : Hid (BlkL wr w2.heap.size [.slice R1 xs.length d1, .slice R2 ys.length d2, .slice R3 zs.length d3]) := Lib.hid hF.blk
          have BW : Hid (Below w1.heap.size w1 wr) := Lib.hid hF.g.below
          have HOWN := Lib.hid hown
          have HX : Hid (validP xs ys zs = validP X Y Z ∧ (validP X Y Z = true → xs = X ∧ ys = Y ∧ zs = Z)) := Lib.hid ⟨validP_CL c1 c2 c3, validP_eq c1 c2 c3⟩
          have HFW : Hid (Few xs ys zs) := Lib.hid (by have := HXL.out; have := HYL.out; have := HZL.out; unfold Few; rw [c1.1, c2.1, c3.1]; omega)
          clear hF hown c1 c2 c3 hnx hny hnz HQ
          have BR : Hid (Below w.heap.size w wr) := Lib.hid (below_of B1.out B1.out.size BW.out)
          have LRR : Hid (BlkL wr (w.heap.size + 1) [.slice none 0 0, .slice none 0 0, .slice none 0 0]) := Lib.hid (LR.out.below BW.out)
          obtain ⟨o0, o1, o2⟩ := BL.out.three
          obtain ⟨-, ⟨k0, k1, k2⟩, -, -, -⟩ := L0.out.below BW.out
          cases v : validP xs ys zs
          · have HN : Hid (O = false) := Lib.hid (by rw [HO.out, ← HX.out.1, v])
            have HE := Lib.hid (s_GiveP_no R1 R2 R3 d1 d2 d3 xs ys zs wr HOWN.out.pf HFW.out v)
            clear v
            go_wp2_with fail
            refine HE.out.mono ?_
            rintro e w6 ⟨rfl, b6⟩
            have B6 : Hid (Below w.heap.size w w6) := Lib.hid (below_of BR.out BR.out.size b6)
            have LR6 : Hid (BlkL w6 (w.heap.size + 1) [.slice none 0 0, .slice none 0 0, .slice none 0 0]) := Lib.hid (LRR.out.below b6)
            clear b6 o0 o1 o2 k0 k1 k2
            have p0 := (LR6.out.2 0 _ rfl).1
            have q0 := (LR6.out.2 0 _ rfl).2
            have p1 := (LR6.out.2 1 _ rfl).1
            have q1 := (LR6.out.2 1 _ rfl).2
            have p2 := (LR6.out.2 2 _ rfl).1
            have q2 := (LR6.out.2 2 _ rfl).2
            go_wp2
            refine bodyPost_ret (v := .tuple #[.agg #[.slice none 0 0, .slice none 0 0, .slice none 0 0], .bool false]) ?_ rfl ?_
            · simp [results, Try.results24, go_sem, p0, p1, p2]
            · rw [HN.out]
              exact ⟨none, none, none, 0, 0, 0, 0, 1, 2, rfl, OwnQ.none _ _, (((B6.out).setCell (p := ⟨w.heap.size + 1, 0, none⟩) (by show w.heap.size ≤ w.heap.size + 1; omega) _).setCell (p := ⟨w.heap.size + 1, 1, none⟩) (by show w.heap.size ≤ w.heap.size + 1; omega) _).setCell (p := ⟨w.heap.size + 1, 2, none⟩) (by show w.heap.size ≤ w.heap.size + 1; omega) _⟩
          · have HN : Hid (O = true) := Lib.hid (by rw [HO.out, ← HX.out.1, v])
            have HE := Lib.hid (s_GiveP_yes R1 R2 R3 d1 d2 d3 xs ys zs wr HOWN.out.pf HFW.out v)
            obtain ⟨rfl, rfl, rfl⟩ := HX.out.2 (by rw [← HX.out.1, v])
            clear v
            go_wp2_with fail
            refine HE.out.mono ?_
            rintro e w6 ⟨rfl, b6⟩
            have B6 : Hid (Below w.heap.size w w6) := Lib.hid (below_of BR.out BR.out.size b6)
            have LR6 : Hid (BlkL w6 (w.heap.size + 1) [.slice none 0 0, .slice none 0 0, .slice none 0 0]) := Lib.hid (LRR.out.below b6)
            have HO6 := Lib.hid (HOWN.out.below b6)
            clear b6 o0 o1 o2 k0 k1 k2
            have p0 := (LR6.out.2 0 _ rfl).1
            have q0 := (LR6.out.2 0 _ rfl).2
            have p1 := (LR6.out.2 1 _ rfl).1
            have q1 := (LR6.out.2 1 _ rfl).2
            have p2 := (LR6.out.2 2 _ rfl).1
            have q2 := (LR6.out.2 2 _ rfl).2
            go_wp2
            refine bodyPost_ret (v := .tuple #[.agg #[.slice R1 xs.length d1, .slice R2 ys.length d2, .slice R3 zs.length d3], .bool true]) ?_ rfl ?_
            · simp [results, Try.results24, go_sem, p0, p1, p2]
            · rw [HN.out]
              have z1 := Z1.out
              exact ⟨R1, R2, R3, d1, d2, d3, g1, g2, g3, rfl, ((((HO6.out).setC (p := ⟨w.heap.size + 1, 0, none⟩) (by show w.heap.size + 1 < _; omega) _).setC (p := ⟨w.heap.size + 1, 1, none⟩) (by show w.heap.size + 1 < _; omega) _).setC (p := ⟨w.heap.size + 1, 2, none⟩) (by show w.heap.size + 1 < _; omega) _).base (by omega), (((B6.out).setCell (p := ⟨w.heap.size + 1, 0, none⟩) (by show w.heap.size ≤ w.heap.size + 1; omega) _).setCell (p := ⟨w.heap.size + 1, 1, none⟩) (by show w.heap.size ≤ w.heap.size + 1; omega) _).setCell (p := ⟨w.heap.size + 1, 2, none⟩) (by show w.heap.size ≤ w.heap.size + 1; omega) _⟩
end Go.Proofs.Ytplofbkollhjpaa
