/- Sums over cycles. No statement is proved here. -/
import Derived.Test.YtpchkedgjikpfabRch
import Derived.Test.YtpchkedgjikpfabApp
namespace Go.Proofs.Ytpchkedgjikpfab
open Go Go.RowKit
/-- a sum of what is told by an index -/
def sumG (g : Nat → Nat) : Nat → Nat
  | 0 => 0
  | k + 1 => fop .add .f32 (sumG g k) (g k)
theorem sumK_G {ys : List Nat} {g : Nat → Nat} {n : Nat} (h : ∀ k, k < n → canon .f32 (ys.getD k 0) = g k) : ∀ k, k ≤ n → sumK ys k = sumG g k := by
  intro k; induction k with
  | zero => intro _; rfl
  | succ k ih => intro hk; simp only [sumK, sumG, ih (by omega), h k (by omega)]
/-- how much of a whole cycle one is -/
def wgtV (z : Bool) : Nat := if z then 1065353216 else 1056964608
theorem wgt_two : fop .mul .f32 (canon .f32 1056964608) (canon .f32 (floatOfInt .f32 2)) = 1065353216 := by decide +kernel
theorem wgt_one : fop .mul .f32 (canon .f32 1056964608) (canon .f32 (floatOfInt .f32 1)) = 1056964608 := by decide +kernel
theorem wgtV_canon (z : Bool) : canon .f32 (wgtV z) = wgtV z := by cases z <;> decide +kernel
theorem i_halves (x y : Nat) (z : Bool) (w : World) :
    Calls Try.prog 67 #[.agg #[.float .f32 x, .float .f32 y, .bool z]] w fun e w' => e = .returned (.int .i64 (if z then 2 else 1)) ∧ Below w.heap.size w w' := by
  have HB : ∀ o1, Hid (Below w.heap.size w (w.alloc o1)) := fun _ => Lib.hid ((Below.refl _ _).alloc (Nat.le_refl _) _)
  cases z
  all_goals
    go_enter Try.func67, Try.ntmps67
    go_wp2
    go_ret
    exact ⟨rfl, (HB _).out⟩
theorem i_weight (x y : Nat) (z : Bool) (w : World) :
    Calls Try.prog 77 #[.agg #[.float .f32 x, .float .f32 y, .bool z]] w fun e w' => ∃ r, e = .returned (.float .f32 r) ∧ canon .f32 r = wgtV z ∧ Below w.heap.size w w' := by
  have HB : ∀ o1, Hid (Below w.heap.size w (w.alloc o1)) := fun _ => Lib.hid ((Below.refl _ _).alloc (Nat.le_refl _) _)
  cases z
  · go_enter Try.func77, Try.ntmps77
    go_wp2_with fail
    refine (i_halves x y false _).mono ?_
    rintro e w1 ⟨rfl, b1⟩
    have B1 : Hid (Below w.heap.size w w1) := Lib.hid (below_of (HB _).out (HB _).out.size b1)
    clear b1
    go_wp2
    go_ret
    exact ⟨_, rfl, by rw [canonF (op := .mul) rfl rfl]; exact wgt_one, below_draws B1.out _⟩
  · go_enter Try.func77, Try.ntmps77
    go_wp2_with fail
    refine (i_halves x y true _).mono ?_
    rintro e w1 ⟨rfl, b1⟩
    have B1 : Hid (Below w.heap.size w w1) := Lib.hid (below_of (HB _).out (HB _).out.size b1)
    clear b1
    go_wp2
    go_ret
    exact ⟨_, rfl, by rw [canonF (op := .mul) rfl rfl]; exact wgt_two, below_draws B1.out _⟩
theorem s_l07Weight (b o : Nat) (z : Bool) (w : World) (h : w.cell? ⟨b, o + 2, none⟩ = some (.bool z)) :
    Calls Try.prog 72 #[.pointer (some ⟨b, o, none⟩)] w fun e w' => e = .returned (.float .f32 (wgtV z)) ∧ w' = w := by
  cases z
  all_goals
    go_enter Try.func72, Try.ntmps72
    go_wp2
    go_ret
    exact ⟨rfl, rfl⟩
set_option maxHeartbeats 4000000 in
set_option maxRecDepth 100000 in
theorem i_listOf_soc (c0 c1 : Value) (q : Nat → Nat) (n : Nat) (w : World) (hn : n ≤ 1048576)
    (hat : ∀ k, k < n → ∀ wr, Below w.heap.size w wr → Calls Try.prog 108 #[.int .i64 k, c0, c1] wr fun e w' => ∃ r, e = .returned (.float .f32 r) ∧ canon .f32 r = q k ∧ Below wr.heap.size wr w') :
    Calls Try.prog 100 #[.int .i64 n, .func (.func 108) #[] #[c0, c1]] w fun e w' => ∃ (A : Option Addr) (xs : List Nat), e = .returned (.slice A n n) ∧ xs.length = n ∧ Fl w' A xs ∧ (∀ k, k < n → canon .f32 (xs.getD k 0) = q k) ∧ Below w.heap.size w w' ∧ A = some ⟨w.heap.size, 0, none⟩ ∧ Own w' w.heap.size xs := by
  have hmk := make_f32 n w hn
  have HA := Lib.hid hat; clear hat
  go_enter Try.func100, Try.ntmps100
  go_wp2
  go_loopw [11] (fun i wr => ∃ (k : Nat) (ys : List Nat), k ≤ n ∧ i = .int .i64 k ∧ FlNew w wr w.heap.size n k ys ∧ ys.length = n ∧ Hid (∀ j, j < k → canon .f32 (ys.getD j 0) = q j)) (fun i _ => n - (intOf i).toNat)
  case atStart => exact ⟨0, List.replicate n 0, Nat.zero_le _, rfl, FlNew.start .., by simp, Lib.hid (fun j hj => absurd hj (Nat.not_lt_zero j))⟩
  case round =>
    obtain ⟨k, ys, hk, rfl, hnew, hlen, hq⟩ := hrel
    clear hmk
    by_cases hlt : k < n
    · have hcall := HA.out k hlt _ hnew.1
      have HN := Lib.hid hnew; clear hnew
      have hwr : IntKind.i64.wrap ((k : Int) + 1) = (k : Int) + 1 := IntWalk.i64_in _ (by omega)
      go_wp2_with fail
      refine hcall.mono ?_
      rintro e w1 ⟨r, rfl, hr, b1⟩
      have hn1 := HN.out.below b1
      obtain ⟨hc2, hc3⟩ := hn1.2.2.2 k hlt
      rw [if_neg (by omega)] at hc2
      have hst := (hn1.congr (ys := ys.set k r) (fun j hj => by rw [getD_lset (by omega), if_neg (by omega)])).step hlt
      rw [getD_lset (by omega), if_pos rfl] at hst
      have HS := Lib.hid hst
      have HQ : Hid (∀ j, j < k + 1 → canon .f32 ((ys.set k r).getD j 0) = q j) := Lib.hid (fun j hj => by
        rw [getD_lset (by omega)]
        by_cases e : k = j
        · rw [if_pos e, hr, e]
        · rw [if_neg e]; exact hq.out j (by omega))
      clear hst hn1 hr b1 hcall
      go_wp2
      go_roundw
      case rel => exact ⟨k + 1, ys.set k r, by omega, by go_num, HS.out, by simp [hlen], HQ⟩
      case measure => simp [intOf]; omega
    · have HN := Lib.hid hnew; clear hnew
      have hkk : k = n := by omega
      subst hkk
      go_wp2
      go_ret
      exact ⟨_, ys, rfl, hlen, by subst hlen; exact HN.out.done (Nat.le_refl _), hq.out, HN.out.1, rfl, by subst hlen; exact Own.of_new HN.out (Nat.le_refl _)⟩
set_option maxHeartbeats 8000000 in
set_option maxRecDepth 100000 in
theorem i_sumAt_dmg (c0 c1 : Value) (G B0 B1 k : Nat) (A : Option Addr) (cap : Nat) (xs : List (Nat × Nat × Bool)) (w : World) (h : FlC w A xs) (k0 : BlkL w B0 [.slice A xs.length cap]) (k1 : BlkL w B1 [.func (.func 76) #[] #[c0, c1]]) (hk : k < xs.length)
    (hat : ∀ W, Below w.heap.size w W → Calls Try.prog 76 #[.agg #[.float .f32 (loN xs k), .float .f32 (hiN xs k), .bool (whB xs k)], c0, c1] W fun e w' => ∃ r, e = .returned (.float .f32 r) ∧ canon .f32 r = G ∧ Below W.heap.size W w') :
    Calls Try.prog 108 #[.int .i64 k, .pointer (some ⟨B1, 0, none⟩), .pointer (some ⟨B0, 0, none⟩)] w fun e w' => ∃ r, e = .returned (.float .f32 r) ∧ canon .f32 r = G ∧ Below w.heap.size w w' := by
  obtain ⟨b, off, rfl, -, -⟩ := h.at_ hk
  have HC : Hid (∀ W, Below w.heap.size w W → W.cell? ⟨b, off + k * 3, none⟩ = some (.float .f32 (loN xs k)) ∧ W.cell? ⟨b, off + k * 3 + 1, none⟩ = some (.float .f32 (hiN xs k)) ∧ W.cell? ⟨b, off + k * 3 + 2, none⟩ = some (.bool (whB xs k))) := Lib.hid (fun W hW => (h.below hW).same hk)
  have HA := Lib.hid hat
  have K0 := Lib.hid k0
  have K1 := Lib.hid k1
  clear hat h k0 k1
  generalize loN xs k = x at HC HA
  generalize hiN xs k = y at HC HA
  generalize whB xs k = z at HC HA
  go_enter Try.func108, Try.ntmps108
  go_wp2_with fail
  refine wp_region_inv4 (fun iq wv v => match iq with
    | 0 => v = .func (.func 76) #[] #[c0, c1]
    | 1 => v = .slice (some ⟨b, off, none⟩) xs.length cap
    | 2 => v = .int .i64 k
    | 3 => v = .pointer (some ⟨b, off + k * 3, none⟩)
    | 4 => v = .agg #[.float .f32 x, .float .f32 y, .bool z]
    | 5 => ∃ r, v = .float .f32 r ∧ canon .f32 r = G
    | 6 => ∃ r, v = .float .f32 r ∧ canon .f32 r = G
    | _ => False) (fun _ ww => Below w.heap.size w ww) (fun w w' => Below w.heap.size w w') ?hmono (by kernel_rfl) (by kernel_rfl) ((Below.refl _ _).drew) ?hop ?hend
  case hmono =>
    intro i wa wb v hR hV
    rcases i with _ | _ | _ | _ | _ | _ | _ | i
    · exact hV
    · exact hV
    · exact hV
    · exact hV
    · exact hV
    · exact hV
    · exact hV
    · exact hV
  case hop =>
    intro q o hq listed act w3 hI hnot hcl hall
    have hB := hI.cls
    have a0 := (K0.out.below hB).one
    have a1 := (K1.out.below hB).one
    obtain ⟨d0, d1, d2⟩ := HC.out _ hB
    rcases q with _ | _ | _ | _ | _ | _ | _ | q
    · simp at hq; subst hq
      have g1 : act.tmps[1]?.getD undef = .pointer (some ⟨B1, 0, none⟩) := hI.kept 1 (by kernel_rfl)
      clear hI hall hnot hcl
      refine .inl ⟨wanted_none rfl, ?_⟩
      unfold Oper.wp
      go_simp
      all_goals first | exact ⟨_, rfl, Below.refl _ _, rfl, hB⟩ | exact ⟨Below.refl _ _, hB⟩ | exact Below.refl _ _
    · simp at hq; subst hq
      have g2 : act.tmps[2]?.getD undef = .pointer (some ⟨B0, 0, none⟩) := hI.kept 2 (by kernel_rfl)
      clear hI hall hnot hcl
      refine .inl ⟨wanted_none rfl, ?_⟩
      unfold Oper.wp
      go_simp
      all_goals first | exact ⟨_, rfl, Below.refl _ _, rfl, hB⟩ | exact ⟨Below.refl _ _, hB⟩ | exact Below.refl _ _
    · simp at hq; subst hq
      have g0 : act.tmps[0]?.getD undef = .int .i64 k := hI.kept 0 (by kernel_rfl)
      clear hI hall hnot hcl
      refine .inl ⟨wanted_none rfl, ?_⟩
      unfold Oper.wp
      go_simp
      all_goals first | exact ⟨_, rfl, Below.refl _ _, rfl, hB⟩ | exact ⟨Below.refl _ _, hB⟩ | exact Below.refl _ _
    · simp at hq; subst hq
      have g6 : act.tmps[6]?.getD undef = .slice (some ⟨b, off, none⟩) xs.length cap := hI.has 1 6 rfl (hall ⟨1, .data⟩ (by simp) rfl)
      have g7 : act.tmps[7]?.getD undef = .int .i64 k := hI.has 2 7 rfl (hall ⟨2, .data⟩ (by simp) rfl)
      clear hI hall hnot hcl
      refine .inl ⟨wanted_none rfl, ?_⟩
      unfold Oper.wp
      go_simp
      all_goals first | exact ⟨_, rfl, Below.refl _ _, rfl, hB⟩ | exact ⟨Below.refl _ _, hB⟩ | exact Below.refl _ _
    · simp at hq; subst hq
      have g8 : act.tmps[8]?.getD undef = .pointer (some ⟨b, off + k * 3, none⟩) := hI.has 3 8 rfl (hall ⟨3, .data⟩ (by simp) rfl)
      clear hI hall hnot hcl
      refine .inl ⟨wanted_none rfl, ?_⟩
      unfold Oper.wp
      go_simp
      all_goals first | exact ⟨_, rfl, Below.refl _ _, rfl, hB⟩ | exact ⟨Below.refl _ _, hB⟩ | exact Below.refl _ _
    · simp at hq; subst hq
      have g5 : act.tmps[5]?.getD undef = .func (.func 76) #[] #[c0, c1] := hI.has 0 5 rfl (hall ⟨0, .data⟩ (by simp) rfl)
      have g9 : act.tmps[9]?.getD undef = .agg #[.float .f32 x, .float .f32 y, .bool z] := hI.has 4 9 rfl (hall ⟨4, .data⟩ (by simp) rfl)
      clear hI hall hnot hcl
      refine .inl ⟨wanted_none rfl, ?_⟩
      unfold Oper.wp
      go_simp
      refine (HA.out _ hB).mono ?_
      rintro e w4 ⟨r4, rfl, h4, b4⟩
      exact ⟨_, rfl, b4, ⟨_, rfl, h4⟩, below_of hB hB.size b4⟩
    · simp at hq; subst hq
      obtain ⟨r5, g10, h5a⟩ := hI.has 5 10 rfl (hall ⟨5, .data⟩ (by simp) rfl)
      clear hI hall hnot hcl
      refine .inl ⟨wanted_none rfl, ?_⟩
      unfold Oper.wp
      go_simp
      first | exact ⟨_, rfl, Below.refl _ _, ⟨_, rfl, h5a⟩⟩ | exact ⟨_, rfl, Below.refl _ _, ⟨_, rfl, h5a⟩, hB⟩
    · simp at hq
  case hend =>
    intro listed act w3 hI hall
    have hB := hI.cls
    have a0 := (K0.out.below hB).one
    have a1 := (K1.out.below hB).one
    obtain ⟨d0, d1, d2⟩ := HC.out _ hB
    obtain ⟨rq, g4, hrq⟩ := hI.has 6 4 rfl (hall 6 (by decide))
    have hd := hI.defers
    clear hI hall
    go_wp2
    refine bodyPost_ret (v := .float .f32 rq) (by simp [results, Try.results108, g4, go_sem]) (by first | rfl | exact hd) ⟨rq, rfl, hrq, hB⟩
set_option maxHeartbeats 4000000 in
theorem i_sumOver_dmg (c0 c1 : Value) (g : Nat → Nat) (A : Option Addr) (cap : Nat) (xs : List (Nat × Nat × Bool)) (w : World) (h : FlC w A xs) (hn : xs.length ≤ 64)
    (hat : ∀ k, k < xs.length → ∀ W, Below w.heap.size w W → Calls Try.prog 76 #[.agg #[.float .f32 (loN xs k), .float .f32 (hiN xs k), .bool (whB xs k)], c0, c1] W fun e w' => ∃ r, e = .returned (.float .f32 r) ∧ canon .f32 r = g k ∧ Below W.heap.size W w') :
    Calls Try.prog 75 #[.slice A xs.length cap, .func (.func 76) #[] #[c0, c1]] w fun e w' => ∃ r, e = .returned (.float .f32 r) ∧ canon .f32 r = sumG g xs.length ∧ Below w.heap.size w w' := by
  have HF := Lib.hid h; clear h
  have HA := Lib.hid hat; clear hat
  obtain ⟨w0, hw0⟩ : ∃ w0, w0 = (w.alloc (.cells #[.slice A xs.length cap] 25)).alloc (.cells #[.func (.func 76) #[] #[c0, c1]] 89) := ⟨_, rfl⟩
  have B0 : Hid (Below w.heap.size w w0) := Lib.hid (by rw [hw0]; exact ((Below.refl _ _).alloc (Nat.le_refl _) _).alloc (by simp) _)
  have K0 : Hid (BlkL w0 w.heap.size [.slice A xs.length cap]) := Lib.hid (by rw [hw0]; exact (blkL_at w #[.slice A xs.length cap] _ rfl).alloc _)
  have K1 : Hid (BlkL w0 (w.heap.size + 1) [.func (.func 76) #[] #[c0, c1]]) := Lib.hid (by rw [hw0]; exact blkL_at (w.alloc _) #[.func (.func 76) #[] #[c0, c1]] _ (by simp))
  have k0 := K0.out.one
  go_enter Try.func75, Try.ntmps75
  go_wp2_with fail
  rw [← hw0]
  clear hw0
  refine (i_listOf_soc _ _ g xs.length _ (by omega) (fun k hk wr hb => i_sumAt_dmg _ _ (g k) w.heap.size (w.heap.size + 1) k A cap xs wr (HF.out.below (below_of B0.out B0.out.size hb)) (K0.out.below hb) (K1.out.below hb) hk (fun W hW => HA.out k hk W (below_of B0.out B0.out.size (below_of hb hb.size hW))))).mono ?_
  rintro e w1 ⟨Y, ys, rfl, hlen, hfl, hq, b3, -, -⟩
  have B1 : Hid (Below w.heap.size w w1) := Lib.hid (below_of B0.out B0.out.size b3)
  have HS : Hid (∀ cp, Calls Try.prog 107 #[.slice Y xs.length cp] w1 fun e w' => ∃ r n, e = .returned (.tuple #[.float .f32 r, .bool true]) ∧ canon .f32 r = sumG g xs.length ∧ w' = w1.drewN n) := Lib.hid (fun cp => by
    have := i_sumOf Y cp ys w1 hfl (by omega)
    rw [hlen, sumK_G hq _ (Nat.le_refl _)] at this
    exact this)
  clear b3 hfl hq hlen k0
  go_wp2_with fail
  refine (HS.out _).mono ?_
  rintro e w' ⟨r, n, rfl, hr, rfl⟩
  have HR := Lib.hid hr; clear hr
  go_wp2
  go_ret
  exact ⟨_, rfl, HR.out, below_draws B1.out _⟩
set_option maxHeartbeats 8000000 in
set_option maxRecDepth 100000 in
theorem i_sumAt_eqr (c0 : Value) (G B0 B1 k : Nat) (A : Option Addr) (cap : Nat) (xs : List (Nat × Nat × Bool)) (w : World) (h : FlC w A xs) (k0 : BlkL w B0 [.slice A xs.length cap]) (k1 : BlkL w B1 [.func (.func 80) #[] #[c0]]) (hk : k < xs.length)
    (hat : ∀ W, Below w.heap.size w W → Calls Try.prog 80 #[.agg #[.float .f32 (loN xs k), .float .f32 (hiN xs k), .bool (whB xs k)], c0] W fun e w' => ∃ r, e = .returned (.float .f32 r) ∧ canon .f32 r = G ∧ Below W.heap.size W w') :
    Calls Try.prog 108 #[.int .i64 k, .pointer (some ⟨B1, 0, none⟩), .pointer (some ⟨B0, 0, none⟩)] w fun e w' => ∃ r, e = .returned (.float .f32 r) ∧ canon .f32 r = G ∧ Below w.heap.size w w' := by
  obtain ⟨b, off, rfl, -, -⟩ := h.at_ hk
  have HC : Hid (∀ W, Below w.heap.size w W → W.cell? ⟨b, off + k * 3, none⟩ = some (.float .f32 (loN xs k)) ∧ W.cell? ⟨b, off + k * 3 + 1, none⟩ = some (.float .f32 (hiN xs k)) ∧ W.cell? ⟨b, off + k * 3 + 2, none⟩ = some (.bool (whB xs k))) := Lib.hid (fun W hW => (h.below hW).same hk)
  have HA := Lib.hid hat
  have K0 := Lib.hid k0
  have K1 := Lib.hid k1
  clear hat h k0 k1
  generalize loN xs k = x at HC HA
  generalize hiN xs k = y at HC HA
  generalize whB xs k = z at HC HA
  go_enter Try.func108, Try.ntmps108
  go_wp2_with fail
  refine wp_region_inv4 (fun iq wv v => match iq with
    | 0 => v = .func (.func 80) #[] #[c0]
    | 1 => v = .slice (some ⟨b, off, none⟩) xs.length cap
    | 2 => v = .int .i64 k
    | 3 => v = .pointer (some ⟨b, off + k * 3, none⟩)
    | 4 => v = .agg #[.float .f32 x, .float .f32 y, .bool z]
    | 5 => ∃ r, v = .float .f32 r ∧ canon .f32 r = G
    | 6 => ∃ r, v = .float .f32 r ∧ canon .f32 r = G
    | _ => False) (fun _ ww => Below w.heap.size w ww) (fun w w' => Below w.heap.size w w') ?hmono (by kernel_rfl) (by kernel_rfl) ((Below.refl _ _).drew) ?hop ?hend
  case hmono =>
    intro i wa wb v hR hV
    rcases i with _ | _ | _ | _ | _ | _ | _ | i
    · exact hV
    · exact hV
    · exact hV
    · exact hV
    · exact hV
    · exact hV
    · exact hV
    · exact hV
  case hop =>
    intro q o hq listed act w3 hI hnot hcl hall
    have hB := hI.cls
    have a0 := (K0.out.below hB).one
    have a1 := (K1.out.below hB).one
    obtain ⟨d0, d1, d2⟩ := HC.out _ hB
    rcases q with _ | _ | _ | _ | _ | _ | _ | q
    · simp at hq; subst hq
      have g1 : act.tmps[1]?.getD undef = .pointer (some ⟨B1, 0, none⟩) := hI.kept 1 (by kernel_rfl)
      clear hI hall hnot hcl
      refine .inl ⟨wanted_none rfl, ?_⟩
      unfold Oper.wp
      go_simp
      all_goals first | exact ⟨_, rfl, Below.refl _ _, rfl, hB⟩ | exact ⟨Below.refl _ _, hB⟩ | exact Below.refl _ _
    · simp at hq; subst hq
      have g2 : act.tmps[2]?.getD undef = .pointer (some ⟨B0, 0, none⟩) := hI.kept 2 (by kernel_rfl)
      clear hI hall hnot hcl
      refine .inl ⟨wanted_none rfl, ?_⟩
      unfold Oper.wp
      go_simp
      all_goals first | exact ⟨_, rfl, Below.refl _ _, rfl, hB⟩ | exact ⟨Below.refl _ _, hB⟩ | exact Below.refl _ _
    · simp at hq; subst hq
      have g0 : act.tmps[0]?.getD undef = .int .i64 k := hI.kept 0 (by kernel_rfl)
      clear hI hall hnot hcl
      refine .inl ⟨wanted_none rfl, ?_⟩
      unfold Oper.wp
      go_simp
      all_goals first | exact ⟨_, rfl, Below.refl _ _, rfl, hB⟩ | exact ⟨Below.refl _ _, hB⟩ | exact Below.refl _ _
    · simp at hq; subst hq
      have g6 : act.tmps[6]?.getD undef = .slice (some ⟨b, off, none⟩) xs.length cap := hI.has 1 6 rfl (hall ⟨1, .data⟩ (by simp) rfl)
      have g7 : act.tmps[7]?.getD undef = .int .i64 k := hI.has 2 7 rfl (hall ⟨2, .data⟩ (by simp) rfl)
      clear hI hall hnot hcl
      refine .inl ⟨wanted_none rfl, ?_⟩
      unfold Oper.wp
      go_simp
      all_goals first | exact ⟨_, rfl, Below.refl _ _, rfl, hB⟩ | exact ⟨Below.refl _ _, hB⟩ | exact Below.refl _ _
    · simp at hq; subst hq
      have g8 : act.tmps[8]?.getD undef = .pointer (some ⟨b, off + k * 3, none⟩) := hI.has 3 8 rfl (hall ⟨3, .data⟩ (by simp) rfl)
      clear hI hall hnot hcl
      refine .inl ⟨wanted_none rfl, ?_⟩
      unfold Oper.wp
      go_simp
      all_goals first | exact ⟨_, rfl, Below.refl _ _, rfl, hB⟩ | exact ⟨Below.refl _ _, hB⟩ | exact Below.refl _ _
    · simp at hq; subst hq
      have g5 : act.tmps[5]?.getD undef = .func (.func 80) #[] #[c0] := hI.has 0 5 rfl (hall ⟨0, .data⟩ (by simp) rfl)
      have g9 : act.tmps[9]?.getD undef = .agg #[.float .f32 x, .float .f32 y, .bool z] := hI.has 4 9 rfl (hall ⟨4, .data⟩ (by simp) rfl)
      clear hI hall hnot hcl
      refine .inl ⟨wanted_none rfl, ?_⟩
      unfold Oper.wp
      go_simp
      refine (HA.out _ hB).mono ?_
      rintro e w4 ⟨r4, rfl, h4, b4⟩
      exact ⟨_, rfl, b4, ⟨_, rfl, h4⟩, below_of hB hB.size b4⟩
    · simp at hq; subst hq
      obtain ⟨r5, g10, h5a⟩ := hI.has 5 10 rfl (hall ⟨5, .data⟩ (by simp) rfl)
      clear hI hall hnot hcl
      refine .inl ⟨wanted_none rfl, ?_⟩
      unfold Oper.wp
      go_simp
      first | exact ⟨_, rfl, Below.refl _ _, ⟨_, rfl, h5a⟩⟩ | exact ⟨_, rfl, Below.refl _ _, ⟨_, rfl, h5a⟩, hB⟩
    · simp at hq
  case hend =>
    intro listed act w3 hI hall
    have hB := hI.cls
    have a0 := (K0.out.below hB).one
    have a1 := (K1.out.below hB).one
    obtain ⟨d0, d1, d2⟩ := HC.out _ hB
    obtain ⟨rq, g4, hrq⟩ := hI.has 6 4 rfl (hall 6 (by decide))
    have hd := hI.defers
    clear hI hall
    go_wp2
    refine bodyPost_ret (v := .float .f32 rq) (by simp [results, Try.results108, g4, go_sem]) (by first | rfl | exact hd) ⟨rq, rfl, hrq, hB⟩
set_option maxHeartbeats 4000000 in
theorem i_sumOver_eqr (c0 : Value) (g : Nat → Nat) (A : Option Addr) (cap : Nat) (xs : List (Nat × Nat × Bool)) (w : World) (h : FlC w A xs) (hn : xs.length ≤ 64)
    (hat : ∀ k, k < xs.length → ∀ W, Below w.heap.size w W → Calls Try.prog 80 #[.agg #[.float .f32 (loN xs k), .float .f32 (hiN xs k), .bool (whB xs k)], c0] W fun e w' => ∃ r, e = .returned (.float .f32 r) ∧ canon .f32 r = g k ∧ Below W.heap.size W w') :
    Calls Try.prog 75 #[.slice A xs.length cap, .func (.func 80) #[] #[c0]] w fun e w' => ∃ r, e = .returned (.float .f32 r) ∧ canon .f32 r = sumG g xs.length ∧ Below w.heap.size w w' := by
  have HF := Lib.hid h; clear h
  have HA := Lib.hid hat; clear hat
  obtain ⟨w0, hw0⟩ : ∃ w0, w0 = (w.alloc (.cells #[.slice A xs.length cap] 25)).alloc (.cells #[.func (.func 80) #[] #[c0]] 89) := ⟨_, rfl⟩
  have B0 : Hid (Below w.heap.size w w0) := Lib.hid (by rw [hw0]; exact ((Below.refl _ _).alloc (Nat.le_refl _) _).alloc (by simp) _)
  have K0 : Hid (BlkL w0 w.heap.size [.slice A xs.length cap]) := Lib.hid (by rw [hw0]; exact (blkL_at w #[.slice A xs.length cap] _ rfl).alloc _)
  have K1 : Hid (BlkL w0 (w.heap.size + 1) [.func (.func 80) #[] #[c0]]) := Lib.hid (by rw [hw0]; exact blkL_at (w.alloc _) #[.func (.func 80) #[] #[c0]] _ (by simp))
  have k0 := K0.out.one
  go_enter Try.func75, Try.ntmps75
  go_wp2_with fail
  rw [← hw0]
  clear hw0
  refine (i_listOf_soc _ _ g xs.length _ (by omega) (fun k hk wr hb => i_sumAt_eqr _ (g k) w.heap.size (w.heap.size + 1) k A cap xs wr (HF.out.below (below_of B0.out B0.out.size hb)) (K0.out.below hb) (K1.out.below hb) hk (fun W hW => HA.out k hk W (below_of B0.out B0.out.size (below_of hb hb.size hW))))).mono ?_
  rintro e w1 ⟨Y, ys, rfl, hlen, hfl, hq, b3, -, -⟩
  have B1 : Hid (Below w.heap.size w w1) := Lib.hid (below_of B0.out B0.out.size b3)
  have HS : Hid (∀ cp, Calls Try.prog 107 #[.slice Y xs.length cp] w1 fun e w' => ∃ r n, e = .returned (.tuple #[.float .f32 r, .bool true]) ∧ canon .f32 r = sumG g xs.length ∧ w' = w1.drewN n) := Lib.hid (fun cp => by
    have := i_sumOf Y cp ys w1 hfl (by omega)
    rw [hlen, sumK_G hq _ (Nat.le_refl _)] at this
    exact this)
  clear b3 hfl hq hlen k0
  go_wp2_with fail
  refine (HS.out _).mono ?_
  rintro e w' ⟨r, n, rfl, hr, rfl⟩
  have HR := Lib.hid hr; clear hr
  go_wp2
  go_ret
  exact ⟨_, rfl, HR.out, below_draws B1.out _⟩
end Go.Proofs.Ytpchkedgjikpfab
