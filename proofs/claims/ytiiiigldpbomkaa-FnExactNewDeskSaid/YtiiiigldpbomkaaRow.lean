/- Rotors in a row: both sides. No statement is proved here. -/
import Derived.Test.YtiiiigldpbomkaaFrmG
namespace Go.Proofs.Ytiiiigldpbomkaa
open Go Go.RowKit
def rowQ (g k : Nat) : Nat := fop .mul .f32 (canon .f32 (floatOfInt .f32 (k : Int))) (canon .f32 g)
def rowX (g : Nat) (c : Int) : List Nat := (List.range c.toNat).map (rowQ g)
def rowY (c : Int) : List Nat := List.replicate c.toNat 0
def rowO (c : Int) (g r d s : Nat) : Bool := decide (1 ≤ c ∧ c ≤ 12) && frmV (rowX g c) (rowY c) r d s
theorem rowO_no {c : Int} {g r d s : Nat} (h : ¬ (1 ≤ c ∧ c ≤ 12)) : rowO c g r d s = false := by unfold rowO; rw [decide_eq_false h]; rfl
theorem rowO_yes {c : Int} {g r d s : Nat} (h : 1 ≤ c ∧ c ≤ 12) : rowO c g r d s = frmV (rowX g c) (rowY c) r d s := by unfold rowO; rw [decide_eq_true h]; rfl
theorem rowX_at {g : Nat} {c : Int} {k : Nat} (h : k < c.toNat) : (rowX g c).getD k 0 = rowQ g k := by simp [rowX, List.getD, h]
theorem rowX_length (g : Nat) (c : Int) : (rowX g c).length = c.toNat := by simp [rowX]
theorem rowY_length (c : Int) : (rowY c).length = c.toNat := by simp [rowY]
theorem row_few (o : Bool) {c : Int} (g : Nat) (h : c ≤ 12 ∨ o = false) : FewS (gL o (rowX g c)) (gL o (rowY c)) := by
  cases o
  · simp [gL, FewS]
  · rcases h with h | h
    · simp only [gL, if_true, FewS, rowX_length, rowY_length]; omega
    · cases h
theorem rowO_few (c : Int) (g r d s : Nat) : FewS (gL (rowO c g r d s) (rowX g c)) (gL (rowO c g r d s) (rowY c)) := by
  refine row_few _ g ?_
  by_cases h : 1 ≤ c ∧ c ≤ 12
  · exact .inl h.2
  · exact .inr (rowO_no h)
theorem nearF_canon (x : Nat) : nearF (canon .f32 x) = nearF x := by
  unfold nearF within geq32 leq32
  cases h : isn .f32 x
  · rw [canon_of_not h]
  · rw [order_nan_left h, order_nan_left (by rw [isn_canon, h]), order_nan_left h, order_nan_left (by rw [isn_canon, h])]
theorem fars_congr {xs zs : List Nat} : ∀ n, (∀ k, k < n → canon .f32 (xs.getD k 0) = canon .f32 (zs.getD k 0)) → fars xs n = fars zs n := by
  intro n; induction n with
  | zero => intro _; rfl
  | succ n ih => intro h; simp only [fars, ih (fun k hk => h k (by omega))]; rw [← nearF_canon (xs.getD n 0), h n (by omega), nearF_canon]
theorem nearF_fin {x : Nat} (h : nearF x = true) : fin .f32 x = true := by
  unfold nearF within at h
  rw [Bool.and_eq_true] at h
  obtain ⟨h1, h2⟩ := h
  cases hd : FloatKind.f32.decode x with
  | number s m e => unfold fin; rw [hd]
  | nan s f =>
    unfold geq32 at h1
    rw [order_nan_left (isn_iff.2 ⟨s, f, hd⟩)] at h1
    cases h1
  | infinity s =>
    have hd' : FloatKind.f32.format.read x = .infinity s := hd
    cases s
    · unfold leq32 Ieee.Format.order at h2
      rw [hd', show FloatKind.f32.format.read 1203982336 = .number false 12800000 (-7) by decide +kernel] at h2
      exact absurd h2 (by decide)
    · unfold geq32 Ieee.Format.order at h1
      rw [hd', show FloatKind.f32.format.read 3351465984 = .number true 12800000 (-7) by decide +kernel] at h1
      exact absurd h1 (by decide)
/-- what lies in memory is what is told, where the farm is valid -/
theorem frmV_model {xs ys zs zt : List Nat} {r d s : Nat} (h1 : xs.length = zs.length) (h2 : ys.length = zt.length) (hx : ∀ k, k < xs.length → canon .f32 (xs.getD k 0) = canon .f32 (zs.getD k 0)) (hy : ∀ k, k < ys.length → canon .f32 (ys.getD k 0) = canon .f32 (zt.getD k 0)) : frmV xs ys r d s = frmV zs zt r d s := by
  unfold frmV
  rw [fars_congr _ hx, fars_congr _ hy, h1, h2]
  have : sizedF xs ys ↔ sizedF zs zt := by unfold sizedF; rw [h1, h2]
  by_cases h : sizedF xs ys
  · rw [decide_eq_true h, decide_eq_true (this.1 h)]
  · rw [decide_eq_false h, decide_eq_false (fun hh => h (this.2 hh))]
theorem list_same {xs zs : List Nat} (h1 : xs.length = zs.length) (hf : fars zs zs.length = true) (hx : ∀ k, k < xs.length → canon .f32 (xs.getD k 0) = canon .f32 (zs.getD k 0)) : xs = zs := by
  apply List.ext_getElem h1
  intro k h2 h3
  have ha := fars_at hf k h3
  have hb : nearF (xs.getD k 0) = true := by rw [← nearF_canon, hx k h2, nearF_canon, ha]
  have e := hx k h2
  rw [canon_of_not (isn_of_fin (nearF_fin ha)), canon_of_not (isn_of_fin (nearF_fin hb))] at e
  simpa [List.getD, h2, h3] using e
theorem own_zeros (w : World) (n : Nat) (E : TypeId) : Own (w.alloc (.cells (madeCells #[.float .f32 0] n) E)) w.heap.size (List.replicate n 0) := by
  obtain ⟨-, -, h3, h4⟩ := FlNew.start w n E []
  refine ⟨h3, fun j hj => ?_⟩
  rw [List.length_replicate] at hj
  obtain ⟨hc, hf⟩ := h4 j hj
  refine ⟨?_, hf⟩
  rw [hc, if_neg (Nat.not_lt_zero j)]
  simp [List.getD, hj]
theorem i_rowAt (B k : Nat) (g : Nat) (w : World) (hk : w.cell? ⟨B, 0, none⟩ = some (.float .f32 g)) :
    Calls Try.prog 200 #[.int .i64 k, .pointer (some ⟨B, 0, none⟩)] w fun e w' => ∃ r, e = .returned (.float .f32 r) ∧ canon .f32 r = rowQ g k ∧ Below w.heap.size w w' := by
  go_enter Try.func200, Try.ntmps200
  go_wp2
  go_ret
  exact ⟨_, rfl, canon_fopV .., by repeat (first | exact Below.refl _ _ | refine below_draws ?_ _)⟩
set_option maxHeartbeats 4000000 in
set_option maxRecDepth 100000 in
theorem i_listOf_row (c0 : Value) (q : Nat → Nat) (n : Nat) (w : World) (hn : n ≤ 1048576)
    (hat : ∀ k, k < n → ∀ wr, Below w.heap.size w wr → Calls Try.prog 200 #[.int .i64 k, c0] wr fun e w' => ∃ r, e = .returned (.float .f32 r) ∧ canon .f32 r = q k ∧ Below wr.heap.size wr w') :
    Calls Try.prog 101 #[.int .i64 n, .func (.func 200) #[] #[c0]] w fun e w' => ∃ (A : Option Addr) (xs : List Nat), e = .returned (.slice A n n) ∧ xs.length = n ∧ Fl w' A xs ∧ (∀ k, k < n → canon .f32 (xs.getD k 0) = q k) ∧ Below w.heap.size w w' ∧ A = some ⟨w.heap.size, 0, none⟩ ∧ Own w' w.heap.size xs := by
  have hmk := make_f32 n w hn
  have HA := Lib.hid hat; clear hat
  go_enter Try.func101, Try.ntmps101
  go_wp2
  go_loopw [11] (fun i wr => ∃ (k : Nat) (ys : List Nat), k ≤ n ∧ i = .int .i64 k ∧ FlNew w wr w.heap.size n k ys ∧ ys.length = n ∧ Hid (∀ j, j < k → canon .f32 (ys.getD j 0) = q j)) (fun i _ => n - (intOf i).toNat)
  case atStart => exact ⟨0, List.replicate n 0, Nat.zero_le _, rfl, FlNew.start .., by simp, Lib.hid (fun j hj => absurd hj (Nat.not_lt_zero j))⟩
  case round =>
    obtain ⟨k, ys, hk, rfl, hnew, hlen, hq⟩ := hrel
    clear hmk
    by_cases hlt : k < n
    · have hcall := HA.out k hlt _ hnew.1
      have HN := Lib.hid hnew; clear hnew
      have hwr : IntKind.i64.wrap ((k : Int) + 1) = (k : Int) + 1 := IntWalk.i64_in _ (by omega)
      go_wp2_with fail
      refine hcall.mono ?_
      rintro e w1 ⟨r, rfl, hr, b1⟩
      have hn1 := HN.out.below b1
      obtain ⟨hc2, hc3⟩ := hn1.2.2.2 k hlt
      rw [if_neg (by omega)] at hc2
      have hst := (hn1.congr (ys := ys.set k r) (fun j hj => by rw [getD_lset (by omega), if_neg (by omega)])).step hlt
      rw [getD_lset (by omega), if_pos rfl] at hst
      have HS := Lib.hid hst
      have HQ : Hid (∀ j, j < k + 1 → canon .f32 ((ys.set k r).getD j 0) = q j) := Lib.hid (fun j hj => by
        rw [getD_lset (by omega)]
        by_cases e : k = j
        · rw [if_pos e, hr, e]
        · rw [if_neg e]; exact hq.out j (by omega))
      clear hst hn1 hr b1 hcall
      go_wp2
      go_roundw
      case rel => exact ⟨k + 1, ys.set k r, by omega, by go_num, HS.out, by simp [hlen], HQ⟩
      case measure => simp [intOf]; omega
    · have HN := Lib.hid hnew; clear hnew
      have hkk : k = n := by omega
      subst hkk
      go_wp2
      go_ret
      exact ⟨_, ys, rfl, hlen, by subst hlen; exact HN.out.done (Nat.le_refl _), hq.out, HN.out.1, rfl, by subst hlen; exact Own.of_new HN.out (Nat.le_refl _)⟩
set_option maxHeartbeats 8000000 in
theorem i_RowFarm (c : Int) (g r d s : Nat) (w : World) (hc : (Lit.int .i64 c).wf = true) :
    Calls Try.prog 152 #[.int .i64 c, .float .f32 g, .float .f32 r, .float .f32 d, .float .f32 s] w fun e w' => ∃ (R1 R2 : Option Addr) (c1 c2 g1 g2 : Nat), e = .returned (.tuple #[.agg #[.slice R1 (gL (rowO c g r d s) (rowX g c)).length c1, .slice R2 (gL (rowO c g r d s) (rowY c)).length c2, .float .f32 (gF (rowO c g r d s) r), .float .f32 (gF (rowO c g r d s) d), .float .f32 (gF (rowO c g r d s) s)], .bool (rowO c g r d s)]) ∧ OwnR2 w' w.heap.size R1 R2 g1 g2 (gL (rowO c g r d s) (rowX g c)) (gL (rowO c g r d s) (rowY c)) ∧ Below w.heap.size w w' := by
  have HB : ∀ o1 o2, Hid (Below w.heap.size w ((w.alloc o1).alloc o2)) := fun _ _ => Lib.hid (((Below.refl _ _).alloc (Nat.le_refl _) _).alloc (by simp) _)
  by_cases h1 : 1 ≤ c
  · by_cases h2 : c ≤ 12
    · obtain ⟨n, rfl⟩ : ∃ n : Nat, c = n := ⟨c.toNat, by omega⟩
      obtain ⟨w0, hw0⟩ : ∃ x, x = (w.alloc (.cells #[.float .f32 g] 25)).alloc (.cells #[.slice none 0 0, .slice none 0 0, .float .f32 0, .float .f32 0, .float .f32 0] 79) := ⟨_, rfl⟩
      have K0 : Hid (BlkL w0 w.heap.size [.float .f32 g]) := Lib.hid (by rw [hw0]; exact (blkL_at w #[.float .f32 g] _ rfl).alloc _)
      have K1 : Hid (BlkL w0 (w.heap.size + 1) [.slice none 0 0, .slice none 0 0, .float .f32 0, .float .f32 0, .float .f32 0]) := Lib.hid (by rw [hw0]; exact blkL_at (w.alloc _) #[.slice none 0 0, .slice none 0 0, .float .f32 0, .float .f32 0, .float .f32 0] _ (by simp))
      have B0 : Hid (Below w.heap.size w w0) := Lib.hid (by rw [hw0]; exact (HB _ _).out)
      have Z0 : Hid (w0.heap.size = w.heap.size + 2) := Lib.hid (by rw [hw0]; simp)
      have HC : Hid (rowO (n : Int) g r d s = frmV (rowX g (n : Int)) (rowY (n : Int)) r d s) := Lib.hid (rowO_yes ⟨h1, h2⟩)
      go_enter Try.func152, Try.ntmps152
      go_wp2_with fail
      rw [← hw0]
      clear hw0
      refine (i_listOf_row _ (rowQ g) n _ (by omega) (fun k hk wr hb => i_rowAt w.heap.size k g wr ((K0.out.below hb).2 0 _ rfl).1)).mono ?_
      rintro e w1 ⟨A, xs, rfl, hlen, hfl, hq, b1, rfl, hown⟩
      have L1 : Hid (BlkL w1 (w.heap.size + 1) [.slice none 0 0, .slice none 0 0, .float .f32 0, .float .f32 0, .float .f32 0]) := Lib.hid (K1.out.below b1)
      have B1 : Hid (Below w.heap.size w w1) := Lib.hid (below_of B0.out B0.out.size b1)
      have HOx : Hid (Own w1 w0.heap.size xs) := Lib.hid hown
      have Z1 : Hid (w0.heap.size < w1.heap.size) := Lib.hid hown.1
      have HL : Hid (xs.length = n) := Lib.hid hlen
      have HQ := Lib.hid hq
      have HM : Hid (frmV xs (rowY (n : Int)) r d s = rowO (n : Int) g r d s) := Lib.hid (by
        rw [HC.out]
        refine frmV_model (by rw [HL.out, rowX_length]; simp) rfl (fun k hk => ?_) (fun k hk => rfl)
        rw [HL.out] at hk
        rw [HQ.out k hk, rowX_at (by simpa using hk)]
        exact (canon_fop ..).symm)
      clear b1 hfl hq hlen hown
      have hmk := fun W => make_f32 n W (by omega)
      obtain ⟨w2, hw2⟩ : ∃ x, x = w1.alloc (.cells (madeCells #[.float .f32 0] n) 25) := ⟨_, rfl⟩
      have B2 : Hid (Below w.heap.size w w2) := Lib.hid (by rw [hw2]; exact B1.out.alloc B1.out.size _)
      have L2 : Hid (BlkL w2 (w.heap.size + 1) [.slice none 0 0, .slice none 0 0, .float .f32 0, .float .f32 0, .float .f32 0]) := Lib.hid (by rw [hw2]; exact L1.out.alloc _)
      have HOX : Hid (Own w2 w0.heap.size xs) := Lib.hid (by rw [hw2]; exact HOx.out.below ((Below.refl _ _).alloc (Nat.le_refl _) _))
      have HOY : Hid (Own w2 w1.heap.size (rowY (n : Int))) := Lib.hid (by rw [hw2]; exact own_zeros w1 n _)
      clear HOx L1
      have hfew : Hid (FewS xs (rowY (n : Int))) := Lib.hid (by unfold FewS; rw [HL.out, rowY_length]; omega)
      have HYL : Hid ((rowY (n : Int)).length = n) := Lib.hid (by rw [rowY_length]; simp)
      cases v : rowO (n : Int) g r d s
      · have HV : Hid (frmV xs (rowY (n : Int)) r d s = false) := Lib.hid (by rw [HM.out, v])
        have HO := Lib.hid v
        clear v
        have HE : Hid (Calls Try.prog 131 #[.agg #[.slice none 0 0, .slice none 0 0, .float .f32 r, .float .f32 d, .float .f32 s], .slice (some ⟨w0.heap.size, 0, none⟩) n n, .slice (some ⟨w1.heap.size, 0, none⟩) n n] w2 fun e w' => e = .returned (.tuple #[.agg #[.slice none 0 0, .slice none 0 0, .float .f32 0, .float .f32 0, .float .f32 0], .bool false]) ∧ Below w2.heap.size w2 w') := Lib.hid (by
          have := i_withPlaces_no none none 0 0 0 0 (some ⟨w0.heap.size, 0, none⟩) (some ⟨w1.heap.size, 0, none⟩) n n xs (rowY (n : Int)) r d s w2 ⟨HOX.out.fl, HOY.out.fl⟩ hfew.out HV.out
          rw [HL.out, HYL.out] at this
          exact this)
        go_wp2_with fail
        rw [← hw2]
        clear hw2 hmk
        refine HE.out.mono ?_
        rintro e w3 ⟨rfl, b3⟩
        have B3 : Hid (Below w.heap.size w w3) := Lib.hid (below_of B2.out B2.out.size b3)
        have L3 : Hid (BlkL w3 (w.heap.size + 1) [.slice none 0 0, .slice none 0 0, .float .f32 0, .float .f32 0, .float .f32 0]) := Lib.hid (L2.out.below b3)
        clear b3
        have p0 := (L3.out.2 0 _ rfl).1
        have q0 := (L3.out.2 0 _ rfl).2
        have p1 := (L3.out.2 1 _ rfl).1
        have q1 := (L3.out.2 1 _ rfl).2
        have p2 := (L3.out.2 2 _ rfl).1
        have q2 := (L3.out.2 2 _ rfl).2
        have p3 := (L3.out.2 3 _ rfl).1
        have q3 := (L3.out.2 3 _ rfl).2
        have p4 := (L3.out.2 4 _ rfl).1
        have q4 := (L3.out.2 4 _ rfl).2
        go_wp2
        refine bodyPost_ret (v := .tuple #[.agg #[.slice none 0 0, .slice none 0 0, .float .f32 0, .float .f32 0, .float .f32 0], .bool false]) ?_ rfl ?_
        · simp [results, Try.results152, go_sem, p0, p1, p2, p3, p4]
        · rw [HO.out]
          exact ⟨none, none, 0, 0, 0, 1, rfl, ⟨.inl rfl, .inl rfl, by decide⟩, (((((B3.out).setCell (p := ⟨w.heap.size + 1, 0, none⟩) (by show w.heap.size ≤ w.heap.size + 1; omega) _).setCell (p := ⟨w.heap.size + 1, 1, none⟩) (by show w.heap.size ≤ w.heap.size + 1; omega) _).setCell (p := ⟨w.heap.size + 1, 2, none⟩) (by show w.heap.size ≤ w.heap.size + 1; omega) _).setCell (p := ⟨w.heap.size + 1, 3, none⟩) (by show w.heap.size ≤ w.heap.size + 1; omega) _).setCell (p := ⟨w.heap.size + 1, 4, none⟩) (by show w.heap.size ≤ w.heap.size + 1; omega) _⟩
      · have HV : Hid (frmV xs (rowY (n : Int)) r d s = true) := Lib.hid (by rw [HM.out, v])
        have HO := Lib.hid v
        clear v
        have HXS : Hid (xs = rowX g (n : Int)) := Lib.hid (by
          have hf : fars (rowX g (n : Int)) (rowX g (n : Int)).length = true := (frmV_parts (by rw [← HC.out, HO.out])).1
          refine list_same (by rw [HL.out, rowX_length]; simp) hf (fun k hk => ?_)
          rw [HL.out] at hk
          rw [HQ.out k hk, rowX_at (by simpa using hk)]
          exact (canon_fop ..).symm)
        have HE : Hid (Calls Try.prog 131 #[.agg #[.slice none 0 0, .slice none 0 0, .float .f32 r, .float .f32 d, .float .f32 s], .slice (some ⟨w0.heap.size, 0, none⟩) n n, .slice (some ⟨w1.heap.size, 0, none⟩) n n] w2 fun e w' => e = .returned (.tuple #[.agg #[.slice (some ⟨w0.heap.size, 0, none⟩) n n, .slice (some ⟨w1.heap.size, 0, none⟩) n n, .float .f32 r, .float .f32 d, .float .f32 s], .bool true]) ∧ Below w2.heap.size w2 w') := Lib.hid (by
          have := i_withPlaces_yes none none 0 0 0 0 (some ⟨w0.heap.size, 0, none⟩) (some ⟨w1.heap.size, 0, none⟩) n n xs (rowY (n : Int)) r d s w2 ⟨HOX.out.fl, HOY.out.fl⟩ hfew.out HV.out
          rw [HL.out, HYL.out] at this
          exact this)
        go_wp2_with fail
        rw [← hw2]
        clear hw2 hmk
        refine HE.out.mono ?_
        rintro e w3 ⟨rfl, b3⟩
        have B3 : Hid (Below w.heap.size w w3) := Lib.hid (below_of B2.out B2.out.size b3)
        have L3 : Hid (BlkL w3 (w.heap.size + 1) [.slice none 0 0, .slice none 0 0, .float .f32 0, .float .f32 0, .float .f32 0]) := Lib.hid (L2.out.below b3)
        have HX3 : Hid (Own w3 w0.heap.size (rowX g (n : Int))) := Lib.hid (by rw [← HXS.out]; exact HOX.out.below b3)
        have HY3 : Hid (Own w3 w1.heap.size (rowY (n : Int))) := Lib.hid (HOY.out.below b3)
        have HLX : Hid ((gL true (rowX g (n : Int))).length = n) := Lib.hid (by rw [← HXS.out]; exact HL.out)
        clear b3
        have p0 := (L3.out.2 0 _ rfl).1
        have q0 := (L3.out.2 0 _ rfl).2
        have p1 := (L3.out.2 1 _ rfl).1
        have q1 := (L3.out.2 1 _ rfl).2
        have p2 := (L3.out.2 2 _ rfl).1
        have q2 := (L3.out.2 2 _ rfl).2
        have p3 := (L3.out.2 3 _ rfl).1
        have q3 := (L3.out.2 3 _ rfl).2
        have p4 := (L3.out.2 4 _ rfl).1
        have q4 := (L3.out.2 4 _ rfl).2
        go_wp2
        refine bodyPost_ret (v := .tuple #[.agg #[.slice (some ⟨w0.heap.size, 0, none⟩) n n, .slice (some ⟨w1.heap.size, 0, none⟩) n n, .float .f32 r, .float .f32 d, .float .f32 s], .bool true]) ?_ rfl ?_
        · simp [results, Try.results152, go_sem, p0, p1, p2, p3, p4]
        · rw [HO.out]
          refine ⟨some ⟨w0.heap.size, 0, none⟩, some ⟨w1.heap.size, 0, none⟩, n, n, w0.heap.size, w1.heap.size, ?_, ?_, (((((B3.out).setCell (p := ⟨w.heap.size + 1, 0, none⟩) (by show w.heap.size ≤ w.heap.size + 1; omega) _).setCell (p := ⟨w.heap.size + 1, 1, none⟩) (by show w.heap.size ≤ w.heap.size + 1; omega) _).setCell (p := ⟨w.heap.size + 1, 2, none⟩) (by show w.heap.size ≤ w.heap.size + 1; omega) _).setCell (p := ⟨w.heap.size + 1, 3, none⟩) (by show w.heap.size ≤ w.heap.size + 1; omega) _).setCell (p := ⟨w.heap.size + 1, 4, none⟩) (by show w.heap.size ≤ w.heap.size + 1; omega) _⟩
          · rw [HLX.out, show (gL true (rowY (n : Int))).length = n from HYL.out]; rfl
          · have := Z0.out; have := Z1.out; have := B0.out.size
            exact OwnR2.of ((((((HX3.out).setCell (p := ⟨w.heap.size + 1, 0, none⟩) (by show w.heap.size + 1 ≠ _; omega) _).setCell (p := ⟨w.heap.size + 1, 1, none⟩) (by show w.heap.size + 1 ≠ _; omega) _).setCell (p := ⟨w.heap.size + 1, 2, none⟩) (by show w.heap.size + 1 ≠ _; omega) _).setCell (p := ⟨w.heap.size + 1, 3, none⟩) (by show w.heap.size + 1 ≠ _; omega) _).setCell (p := ⟨w.heap.size + 1, 4, none⟩) (by show w.heap.size + 1 ≠ _; omega) _) ((((((HY3.out).setCell (p := ⟨w.heap.size + 1, 0, none⟩) (by show w.heap.size + 1 ≠ _; omega) _).setCell (p := ⟨w.heap.size + 1, 1, none⟩) (by show w.heap.size + 1 ≠ _; omega) _).setCell (p := ⟨w.heap.size + 1, 2, none⟩) (by show w.heap.size + 1 ≠ _; omega) _).setCell (p := ⟨w.heap.size + 1, 3, none⟩) (by show w.heap.size + 1 ≠ _; omega) _).setCell (p := ⟨w.heap.size + 1, 4, none⟩) (by show w.heap.size + 1 ≠ _; omega) _) (by omega) (by omega)
    · have HO : Hid (rowO c g r d s = false) := Lib.hid (rowO_no (by omega))
      have K1 : ∀ o, Hid (BlkL ((w.alloc o).alloc (.cells #[.slice none 0 0, .slice none 0 0, .float .f32 0, .float .f32 0, .float .f32 0] 79)) (w.heap.size + 1) [.slice none 0 0, .slice none 0 0, .float .f32 0, .float .f32 0, .float .f32 0]) := fun o => Lib.hid (blkL_at (w.alloc o) #[.slice none 0 0, .slice none 0 0, .float .f32 0, .float .f32 0, .float .f32 0] _ (by simp))
      go_enter Try.func152, Try.ntmps152
      go_wp2
      refine bodyPost_ret (v := .tuple #[.agg #[.slice none 0 0, .slice none 0 0, .float .f32 0, .float .f32 0, .float .f32 0], .bool false]) ?_ rfl ?_
      · simp [results, Try.results152, go_sem]
      · rw [HO.out]
        exact ⟨none, none, ⟨0, 0, rfl⟩, ⟨0, 1, .inl rfl, .inl rfl, by decide⟩, (HB _ _).out⟩
  · have HO : Hid (rowO c g r d s = false) := Lib.hid (rowO_no (by omega))
    go_enter Try.func152, Try.ntmps152
    go_wp2
    refine bodyPost_ret (v := .tuple #[.agg #[.slice none 0 0, .slice none 0 0, .float .f32 0, .float .f32 0, .float .f32 0], .bool false]) ?_ rfl ?_
    · simp [results, Try.results152, go_sem]
    · rw [HO.out]
      exact ⟨none, none, ⟨0, 0, rfl⟩, ⟨0, 1, .inl rfl, .inl rfl, by decide⟩, (HB _ _).out⟩
set_option maxHeartbeats 8000000 in
set_option maxRecDepth 100000 in
theorem s_l06Row (n : Nat) (g r d s : Nat) (w : World) (hn : n ≤ 12) :
    Calls Try.prog 149 #[.int .i64 n, .float .f32 g, .float .f32 r, .float .f32 d, .float .f32 s] w fun e w' => ∃ (v v' : Value) (xs : List Nat), e = .returned (.agg #[v, v', .float .f32 r, .float .f32 d, .float .f32 s]) ∧ xs.length = n ∧ (∀ k, k < n → canon .f32 (xs.getD k 0) = rowQ g k) ∧
      Gr w' w.heap.size v xs ∧ Gr w' w.heap.size v' (List.replicate n 0) ∧ (∀ k, v.ownBlock = some k → v'.ownBlock ≠ some k) ∧ Below w.heap.size w w' := by
  obtain ⟨i0, hi, hz0, hz1, hz2⟩ := info_parts f32_info
  have HN := Lib.hid hn
  obtain ⟨w0, hw0⟩ : ∃ x, x = (((w.alloc (.cells #[.slice none 0 0, .slice none 0 0, .float .f32 0, .float .f32 0, .float .f32 0] 79)).alloc (.cells #[] 25)).alloc (.cells #[] 25)).alloc (.cells #[.slice (some ⟨w.heap.size + 1, 0, none⟩) 0 0, .slice (some ⟨w.heap.size + 1 + 1, 0, none⟩) 0 0, .float .f32 r, .float .f32 d, .float .f32 s] 79) := ⟨_, rfl⟩
  obtain ⟨wA, hwA⟩ : ∃ x, x = w.alloc (.cells #[.slice none 0 0, .slice none 0 0, .float .f32 0, .float .f32 0, .float .f32 0] 79) := ⟨_, rfl⟩
  have ZA : Hid (wA.heap.size = w.heap.size + 1) := Lib.hid (by rw [hwA]; simp)
  have HRA : Hid (BlkL wA w.heap.size [.slice none 0 0, .slice none 0 0, .float .f32 0, .float .f32 0, .float .f32 0]) := Lib.hid (by rw [hwA]; exact blkL_at w #[.slice none 0 0, .slice none 0 0, .float .f32 0, .float .f32 0, .float .f32 0] _ rfl)
  have HBA : Hid (Below w.heap.size w wA) := Lib.hid (by rw [hwA]; exact (Below.refl _ _).alloc (Nat.le_refl _) _)
  have HF0 : Hid (FG wA w0 (w.heap.size + 1 + 1 + 1) (.slice (some ⟨w.heap.size + 1, 0, none⟩) 0 0) (.slice (some ⟨w.heap.size + 1 + 1, 0, none⟩) 0 0) r d s [] []) := Lib.hid (by
    have hz := ZA.out
    rw [hw0, ← hwA]
    refine ⟨blkL_at _ #[_, _, _, _, _] _ (by simp [hz]), ?_, ?_, ?_, ?_, ?_, ?_, by omega⟩
    · have := Gr.made wA wA.heap.size 0 #[] (Nat.le_refl _) (Nat.zero_le _) rfl
      rw [hz] at this ⊢
      exact (this.below ((Below.refl _ _).alloc (Nat.le_refl _) _)).below ((Below.refl _ _).alloc (Nat.le_refl _) _)
    · have := Gr.made (wA.alloc (.cells #[] 25)) wA.heap.size 0 #[] (by simp) (Nat.zero_le _) rfl
      rw [show (wA.alloc (.cells #[] 25)).heap.size = w.heap.size + 1 + 1 by simp [hz], hz] at this
      rw [hz]
      exact this.below ((Below.refl _ _).alloc (Nat.le_refl _) _)
    · intro k hk hk'; simp [Value.ownBlock] at hk hk'; omega
    · simp [Value.ownBlock]
    · simp [Value.ownBlock]
    · exact (((Below.refl _ _).alloc (Nat.le_refl _) _).alloc (by simp) _).alloc (by simp <;> omega) _)
  clear hwA
  go_enter Try.func149, Try.ntmps149
  go_wp2
  rw [← hw0]
  clear hw0
  go_loopw [12] (fun i wr => ∃ (k : Nat) (v v' : Value) (xs : List Nat), k ≤ n ∧ i = .int .i64 k ∧ FG wA wr (w.heap.size + 1 + 1 + 1) v v' r d s xs (List.replicate k 0) ∧ xs.length = k ∧ (∀ j, j < k → canon .f32 (xs.getD j 0) = rowQ g j)) (fun i _ => n - (intOf i).toNat)
  case atStart => exact ⟨0, _, _, [], Nat.zero_le _, rfl, HF0.out, rfl, fun j hj => absurd hj (Nat.not_lt_zero j)⟩
  case round =>
    obtain ⟨k, v, v', xs, hk, rfl, hF, hl, hq⟩ := hrel
    have HF := Lib.hid hF; clear hF
    have HL := Lib.hid hl; clear hl
    have HQ := Lib.hid hq; clear hq
    by_cases hlt : k < n
    · obtain ⟨k0, k1, -, -, -⟩ := HF.out.blk.five
      obtain ⟨rv, hrv⟩ : ∃ x, x = fopV .mul .f32 (floatOfInt .f32 (k : Int)) g wr := ⟨_, rfl⟩
      have HRV : Hid (canon .f32 rv = rowQ g k) := Lib.hid (by rw [hrv, canon_fopV]; rfl)
      go_wp2_with (first
        | (at_builtin; rw [← hrv]; refine wpList_append_own_at _ rfl _ _ 22 rfl wA.heap.size 25 i0 (.float .f32 0) 1 4 Try.underlying22 hi hz0 hz1 hz2 rfl (by decide) _ _ _ rfl ((HF.out.draws _).alloc _).gx ⟨_, 0, none⟩ 1 1 [.float .f32 rv] rfl rfl ?c1 ?c2 ?c3 ?c4 ?c5 ?_)
        | fail)
      case c1 =>
        intro j u hj
        match j, hj with
        | 0, hj => simp at hj; subst hj; exact ((blkL_at (World.drewN wr _) #[.float .f32 rv] _ rfl).2 0 _ rfl).1
      case c2 => intro u hu; simp at hu; subst hu; rfl
      case c3 => have := HL.out; unfold maxLen; omega
      case c4 => have := HL.out; omega
      case c5 => have := HF.out.below.size; simp; omega
      · intro v2 w7 hown' hgrow _ hat
        clear k0 k1
        have HF2 := Lib.hid (FG.putX (m := 1) (zs := [rv]) (HF.out.draws _) rfl (by rw [hrv]; simpa using hown') hgrow (by simpa using hat))
        obtain ⟨A2, cp2, bb2, rfl, -⟩ := Gr.own HF2.out.gx
        rw [show (xs ++ [rv]).length = xs.length + 1 by simp] at HF2
        have M := (HF.out.draws _).midX hgrow
        have p0 := (M.2 0 _ rfl).1
        have q0 := (M.2 0 _ rfl).2
        have p1 := (M.2 1 _ rfl).1
        clear hown' hgrow hat M hrv
        go_wp2_with (first
          | (at_builtin; refine wpList_append_own_at _ rfl _ _ 22 rfl wA.heap.size 25 i0 (.float .f32 0) 1 4 Try.underlying22 hi hz0 hz1 hz2 rfl (by decide) _ _ _ rfl (HF2.out.alloc _).gy ⟨_, 0, none⟩ 1 1 [.float .f32 0] rfl rfl ?c1 ?c2 ?c3 ?c4 ?c5 ?_)
          | fail)
        case c1 =>
          intro j u hj
          match j, hj with
          | 0, hj => simp at hj; subst hj; exact ((blkL_at (World.setCell w7 _ _) #[.float .f32 0] _ (by simp)).2 0 _ rfl).1
        case c2 => intro u hu; simp at hu; subst hu; rfl
        case c3 => simp; unfold maxLen; omega
        case c4 => simp; omega
        case c5 => have := HF2.out.below.size; simp at this ⊢; omega
        · intro v3 w9 hown' hgrow _ hat
          have HF3 := Lib.hid (FG.putY (m := 1) (zs := [0]) HF2.out rfl (by simpa using hown') hgrow (by simpa using hat))
          obtain ⟨A3, cp3, bb3, rfl, -⟩ := Gr.own HF3.out.gy
          have e9 : (List.replicate k 0 ++ [0] : List Nat).length = k + 1 := by simp
          rw [e9] at HF3
          clear e9
          have M := HF2.out.midY hgrow
          have p2 := (M.2 1 _ rfl).1
          have q2 := (M.2 1 _ rfl).2
          clear hown' hgrow hat M p0 q0 p1
          go_wp2
          go_roundw
          case rel =>
            refine ⟨k + 1, .slice A2 (xs.length + 1) cp2, .slice A3 (k + 1) cp3, xs ++ [rv], by omega, by go_num, ?_, by simp [HL.out], fun j hj => ?_⟩
            · have := HF3.out
              rw [← List.replicate_succ'] at this
              exact this
            · rw [getD_snoc _ _ _ (by rw [HL.out]; exact hj), HL.out]
              by_cases e : j = k
              · rw [if_pos e, HRV.out, e]
              · rw [if_neg e]; exact HQ.out j (by omega)
          case measure => simp [intOf]; omega
    · have hkk : k = n := by omega
      subst hkk
      have HRW : Hid (BlkL _ w.heap.size [.slice none 0 0, .slice none 0 0, .float .f32 0, .float .f32 0, .float .f32 0]) := Lib.hid (HRA.out.below (HF.out.below))
      obtain ⟨Av, cv, bv, rfl, -⟩ := Gr.own HF.out.gx
      obtain ⟨Aw, cw, bw, rfl, -⟩ := Gr.own HF.out.gy
      rw [List.length_replicate] at HF
      obtain ⟨k0, k1, k2, k3, k4⟩ := HF.out.blk.five
      have p0 := (HRW.out.2 0 _ rfl).1
      have q0 := (HRW.out.2 0 _ rfl).2
      have p1 := (HRW.out.2 1 _ rfl).1
      have q1 := (HRW.out.2 1 _ rfl).2
      have p2 := (HRW.out.2 2 _ rfl).1
      have q2 := (HRW.out.2 2 _ rfl).2
      have p3 := (HRW.out.2 3 _ rfl).1
      have q3 := (HRW.out.2 3 _ rfl).2
      have p4 := (HRW.out.2 4 _ rfl).1
      have q4 := (HRW.out.2 4 _ rfl).2
      go_wp2
      refine bodyPost_ret (v := .agg #[.slice Av xs.length cv, .slice Aw k cw, .float .f32 r, .float .f32 d, .float .f32 s]) ?_ rfl ?_
      · simp [results, Try.results149, go_sem, p0, p1, p2, p3, p4]
      · have hz := ZA.out
        have hne1 : Value.ownBlock (.slice Av xs.length cv) ≠ some w.heap.size := fun e => by have := (HF.out.gx.lt' e).1; omega
        have hne2 : Value.ownBlock (.slice Aw k cw) ≠ some w.heap.size := fun e => by have := (HF.out.gy.lt' e).1; omega
        refine ⟨_, _, xs, rfl, HL.out, HQ.out, ?_, ?_, HF.out.nv, ?_⟩
        · exact (((((HF.out.gx.base (by omega : w.heap.size ≤ wA.heap.size)).setCell (p := ⟨w.heap.size, 0, none⟩) (hne1) _).setCell (p := ⟨w.heap.size, 1, none⟩) (hne1) _).setCell (p := ⟨w.heap.size, 2, none⟩) (hne1) _).setCell (p := ⟨w.heap.size, 3, none⟩) (hne1) _).setCell (p := ⟨w.heap.size, 4, none⟩) (hne1) _
        · exact (((((HF.out.gy.base (by omega : w.heap.size ≤ wA.heap.size)).setCell (p := ⟨w.heap.size, 0, none⟩) (hne2) _).setCell (p := ⟨w.heap.size, 1, none⟩) (hne2) _).setCell (p := ⟨w.heap.size, 2, none⟩) (hne2) _).setCell (p := ⟨w.heap.size, 3, none⟩) (hne2) _).setCell (p := ⟨w.heap.size, 4, none⟩) (hne2) _
        · exact (((((below_of HBA.out HBA.out.size HF.out.below).setCell (p := ⟨w.heap.size, 0, none⟩) (Nat.le_refl _) _).setCell (p := ⟨w.heap.size, 1, none⟩) (Nat.le_refl _) _).setCell (p := ⟨w.heap.size, 2, none⟩) (Nat.le_refl _) _).setCell (p := ⟨w.heap.size, 3, none⟩) (Nat.le_refl _) _).setCell (p := ⟨w.heap.size, 4, none⟩) (Nat.le_refl _) _
end Go.Proofs.Ytiiiigldpbomkaa
