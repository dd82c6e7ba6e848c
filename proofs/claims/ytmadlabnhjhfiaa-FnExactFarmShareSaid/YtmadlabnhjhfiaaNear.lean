/- The rotors that are nearest to one another: both sides. No statement is proved here. -/
import Derived.Test.YtmadlabnhjhfiaaBnd
import Derived.Test.YtmadlabnhjhfiaaInv4
namespace Go.Proofs.Ytmadlabnhjhfiaa
open Go Go.RowKit
def dAt (fx fy : List Nat) (i k : Nat) : Nat := dstN (canon .f32 (fx.getD i 0)) (canon .f32 (fy.getD i 0)) (canon .f32 (fx.getD k 0)) (canon .f32 (fy.getD k 0))
def nStep (D : Nat → Nat → Nat) (s : Nat × Nat × Nat) (i k : Nat) : Nat × Nat × Nat := if lss32 (D i k) s.2.2 then (i, k, D i k) else s
def nInn (D : Nat → Nat → Nat) (s : Nat × Nat × Nat) (i : Nat) : Nat → Nat × Nat × Nat
  | 0 => s
  | j + 1 => nStep D (nInn D s i j) i (i + 1 + j)
def nOut (D : Nat → Nat → Nat) (n : Nat) (s : Nat × Nat × Nat) : Nat → Nat × Nat × Nat
  | 0 => s
  | m + 1 => nInn D (nOut D n s m) m (n - (m + 1))
def nS0 (D : Nat → Nat → Nat) : Nat × Nat × Nat := (0, 1, D 0 1)
def nearS (fx fy : List Nat) : Nat × Nat × Nat := nOut (dAt fx fy) fx.length (nS0 (dAt fx fy)) fx.length
theorem lss_self (x : Nat) : lss32 x x = false := by
  unfold lss32
  rw [order_self]
  cases isn .f32 x <;> rfl
theorem nStep_first (D : Nat → Nat → Nat) : nStep D (nS0 D) 0 1 = nS0 D := by
  unfold nStep nS0
  rw [lss_self]; rfl
theorem lss_canon {a b A B : Nat} (h : canon .f32 a = A) (h' : canon .f32 b = B) : lss32 a b = lss32 A B := by
  subst h; subst h'
  unfold lss32
  rw [order_canon]
theorem nInn_P {D : Nat → Nat → Nat} {P : Nat → Prop} (s : Nat × Nat × Nat) (i : Nat) (hs : P s.2.2) (hD : ∀ j, P (D i (i + 1 + j))) : ∀ j, P (nInn D s i j).2.2 := by
  intro j; induction j with
  | zero => exact hs
  | succ j ih => simp only [nInn, nStep]; split; exact hD j; exact ih
theorem i_distanceOf (x y z t : Nat) (w : World) (hx : fin .f32 x = true) (hy : fin .f32 y = true) (hz : fin .f32 z = true) (ht : fin .f32 t = true) :
    Calls Try.prog 207 #[.agg #[.float .f32 x, .float .f32 y], .agg #[.float .f32 z, .float .f32 t]] w fun e w' => ∃ r, e = .returned (.float .f32 r) ∧ canon .f32 r = dstN x y z t ∧ Below w.heap.size w w' := by
  obtain ⟨u1, u2⟩ := fop_sure (sub_num hx hz)
  obtain ⟨v1, v2⟩ := fop_sure (sub_num hy ht)
  have HB : ∀ o1 o2, Hid (Below w.heap.size w ((w.alloc o1).alloc o2)) := fun _ _ => Lib.hid (((Below.refl _ _).alloc (Nat.le_refl _) _).alloc (by simp) _)
  have HD : Hid (dstN x y z t = canon .f32 (rootF (fop .add .f32 (fop .mul .f32 (fop .sub .f32 x z) (fop .sub .f32 x z)) (fop .mul .f32 (fop .sub .f32 y t) (fop .sub .f32 y t))))) := rfl
  have HU : Hid (canon .f32 (fop .sub .f32 x z) = fop .sub .f32 x z) := Lib.hid (canon_fop ..)
  have HV : Hid (canon .f32 (fop .sub .f32 y t) = fop .sub .f32 y t) := Lib.hid (canon_fop ..)
  generalize fop .sub .f32 x z = u at *
  generalize fop .sub .f32 y t = v at *
  clear hx hy hz ht
  go_enter Try.func207, Try.ntmps207
  go_wp2
  go_region
  all_goals
    go_wp2_with fail
    refine (i_mulNumbers _ _ _).mono ?_
    rintro e w' ⟨rfl, rfl⟩
    go_wp2_with fail
    refine (i_mulNumbers _ _ _).mono ?_
    rintro e w' ⟨rfl, rfl⟩
    go_wp2_with fail
    refine (i_RootNumber _ _).mono ?_
    rintro e w' ⟨r, n, rfl, hr, rfl⟩
    have HR : Hid (canon .f32 r = dstN x y z t) := Lib.hid (by rw [hr, HD.out, canonF (canonF HU.out HU.out) (canonF HV.out HV.out)])
    clear hr
    go_wp2
    go_ret
    exact ⟨r, rfl, HR.out, by repeat (first | exact (HB _ _).out | refine below_draws ?_ _)⟩
theorem near_model {fx fy : List Nat} {fr fd fs : Nat} (h : frmV fx fy fr fd fs = true) : (∀ i, i < fx.length → nearF (fx.getD i 0) = true) ∧ (∀ i, i < fx.length → nearF (fy.getD i 0) = true) ∧ fy.length = fx.length ∧ fx.length ≤ 12 ∧ 1 ≤ fx.length := by
  obtain ⟨h1, h2, -⟩ := frmV_parts h
  obtain ⟨s1, s2, s3⟩ := frmV_sized h
  exact ⟨fars_at h1, fun i hi => fars_at h2 i (by omega), s3, s2, s1⟩
def nearO (fx fy : List Nat) (fr fd fs : Nat) : Bool := frmV fx fy fr fd fs && decide (2 ≤ fx.length)
def nearA (fx fy : List Nat) (fr fd fs : Nat) : Int := if nearO fx fy fr fd fs then ((nearS fx fy).1 : Int) else 0
def nearB (fx fy : List Nat) (fr fd fs : Nat) : Int := if nearO fx fy fr fd fs then ((nearS fx fy).2.1 : Int) else 0
def nearR (fx fy : List Nat) (fr fd fs : Nat) : Nat := if nearO fx fy fr fd fs then (nearS fx fy).2.2 else 0
theorem nOut_fin {D : Nat → Nat → Nat} {n : Nat} (hD : ∀ i k, i < n → k < n → fin .f32 (D i k) = true) (h2 : 2 ≤ n) : fin .f32 (nOut D n (nS0 D) n).2.2 = true := by
  have hI : ∀ s i, i < n → fin .f32 s.2.2 = true → ∀ j, i + 1 + j ≤ n → fin .f32 (nInn D s i j).2.2 = true := by
    intro s i hi hs j
    induction j with
    | zero => intro _; exact hs
    | succ j ih =>
      intro hj
      show fin .f32 (nStep D (nInn D s i j) i (i + 1 + j)).2.2 = true
      have h1 := ih (by omega)
      have h3 := hD i (i + 1 + j) hi (by omega)
      generalize nInn D s i j = t at h1
      unfold nStep
      cases lss32 (D i (i + 1 + j)) t.2.2
      · exact h1
      · exact h3
  have hO : ∀ m, m ≤ n → fin .f32 (nOut D n (nS0 D) m).2.2 = true := by
    intro m
    induction m with
    | zero => intro _; exact hD 0 1 (by omega) (by omega)
    | succ m ih => intro hm; exact hI _ m (by omega) (ih (by omega)) _ (by omega)
  exact hO _ (Nat.le_refl _)
theorem nearS_fin {fx fy : List Nat} {fr fd fs : Nat} (h : frmV fx fy fr fd fs = true) (h2 : 2 ≤ fx.length) : fin .f32 (nearS fx fy).2.2 = true := by
  obtain ⟨hx, hy, -, -, -⟩ := near_model h
  have hc : ∀ a, nearF a = true → nearF (canon .f32 a) = true := fun a ha => by rw [nearF_canon]; exact ha
  exact nOut_fin (fun i k hi hk => dstN_fin (hc _ (hx i hi)) (hc _ (hy i hi)) (hc _ (hx k hk)) (hc _ (hy k hk))) h2
set_option maxHeartbeats 1000000 in
set_option maxRecDepth 100000 in
theorem i_NearestPlaces (X Y : Option Addr) (cx cy : Nat) (fx fy : List Nat) (fr fd fs : Nat) (w : World) (h : Rs w X Y fx fy) (hn : FewS fx fy) :
    Calls Try.prog 176 #[.agg #[.slice X fx.length cx, .slice Y fy.length cy, .float .f32 fr, .float .f32 fd, .float .f32 fs]] w fun e w' => ∃ r, e = .returned (.tuple #[.int .i64 (nearA fx fy fr fd fs), .int .i64 (nearB fx fy fr fd fs), .float .f32 r, .bool (nearO fx fy fr fd fs)]) ∧ canon .f32 r = nearR fx fy fr fd fs ∧ Below w.heap.size w w' := by
  have HP := Lib.hid h; have HN := Lib.hid hn
  clear h hn
  have HB : ∀ o1, Hid (Below w.heap.size w (w.alloc o1)) := fun _ => Lib.hid ((Below.refl _ _).alloc (Nat.le_refl _) _)
  have K0 : ∀ t, Hid (BlkL (w.alloc (.cells #[.slice X fx.length cx, .slice Y fy.length cy, .float .f32 fr, .float .f32 fd, .float .f32 fs] t)) w.heap.size [.slice X fx.length cx, .slice Y fy.length cy, .float .f32 fr, .float .f32 fd, .float .f32 fs]) := fun t => Lib.hid (blkL_at w #[.slice X fx.length cx, .slice Y fy.length cy, .float .f32 fr, .float .f32 fd, .float .f32 fs] t rfl)
  go_enter Try.func176, Try.ntmps176
  go_wp2_with fail
  refine (i_ValidFarm X Y cx cy fx fy fr fd fs _ (HP.out.below (HB _).out) HN.out).mono ?_
  rintro e w1 ⟨rfl, b1⟩
  have B1 : Hid (Below w.heap.size w w1) := Lib.hid (below_of (HB _).out (HB _).out.size b1)
  have K1 : Hid (BlkL w1 w.heap.size [.slice X fx.length cx, .slice Y fy.length cy, .float .f32 fr, .float .f32 fd, .float .f32 fs]) := Lib.hid ((K0 _).out.below b1)
  clear b1 K0 HB
  obtain ⟨D, hD0⟩ : ∃ D, D = dAt fx fy := ⟨_, rfl⟩
  have HDE := Lib.hid hD0
  clear hD0
  obtain ⟨k0, k1, k2, k3, k4⟩ := K1.out.five
  cases v : frmV fx fy fr fd fs
  · have HO : Hid (nearO fx fy fr fd fs = false) := Lib.hid (by unfold nearO; rw [v]; rfl)
    clear v
    go_wp2
    refine bodyPost_ret (v := .tuple #[.int .i64 0, .int .i64 0, .float .f32 0, .bool false]) (by simp [results, Try.results176, go_sem]) rfl ?_
    exact ⟨0, by unfold nearA nearB; rw [HO.out]; rfl, by unfold nearR; rw [HO.out]; exact canon_zero, B1.out⟩
  · have V := Lib.hid v
    obtain ⟨hx, hy, hl, h12, h1⟩ := near_model v
    have HNX := Lib.hid hx; have HNY := Lib.hid hy; have HL := Lib.hid hl
    clear v hx hy hl
    by_cases h2 : 2 ≤ fx.length
    · have HO : Hid (nearO fx fy fr fd fs = true) := Lib.hid (by unfold nearO; rw [V.out, decide_eq_true h2]; rfl)
      obtain ⟨dd, hdd0⟩ : ∃ x, x = D 0 1 := ⟨_, rfl⟩
      have HDD : Hid (D 0 1 = dd) := Lib.hid hdd0.symm
      have QP0 : ∀ W, Below w.heap.size w W → Hid (Calls Try.prog 124 #[.agg #[.slice X fx.length cx, .slice Y fy.length cy, .float .f32 fr, .float .f32 fd, .float .f32 fs], .int .i64 ((0 : Nat) : Int)] W fun e w' => e = .returned (.agg #[.float .f32 (fx.getD (0) 0), .float .f32 (fy.getD (0) 0)]) ∧ Below W.heap.size W w') := fun W hb => Lib.hid (i_placeOf X Y cx cy fx fy fr fd fs (0) W (HP.out.below hb) HN.out (by omega) (by have := HL.out; omega))
      have QP1 : ∀ W, Below w.heap.size w W → Hid (Calls Try.prog 124 #[.agg #[.slice X fx.length cx, .slice Y fy.length cy, .float .f32 fr, .float .f32 fd, .float .f32 fs], .int .i64 ((1 : Nat) : Int)] W fun e w' => e = .returned (.agg #[.float .f32 (fx.getD (1) 0), .float .f32 (fy.getD (1) 0)]) ∧ Below W.heap.size W w') := fun W hb => Lib.hid (i_placeOf X Y cx cy fx fy fr fd fs (1) W (HP.out.below hb) HN.out (by omega) (by have := HL.out; omega))
      have QD : ∀ W, Hid (Calls Try.prog 207 #[.agg #[.float .f32 (fx.getD (0) 0), .float .f32 (fy.getD (0) 0)], .agg #[.float .f32 (fx.getD (1) 0), .float .f32 (fy.getD (1) 0)]] W fun e w' => ∃ r, e = .returned (.float .f32 r) ∧ canon .f32 r = D (0) (1) ∧ Below W.heap.size W w') := fun W => Lib.hid (by
        have h1 := HNX.out (0) (by omega); have h2 := HNY.out (0) (by omega); have h3 := HNX.out (1) (by omega); have h4 := HNY.out (1) (by omega)
        have := i_distanceOf (fx.getD (0) 0) (fy.getD (0) 0) (fx.getD (1) 0) (fy.getD (1) 0) W (nearF_fin h1) (nearF_fin h2) (nearF_fin h3) (nearF_fin h4)
        rw [HDE.out]
        unfold dAt
        rw [canon_of_not (isn_of_fin (nearF_fin h1)), canon_of_not (isn_of_fin (nearF_fin h2)), canon_of_not (isn_of_fin (nearF_fin h3)), canon_of_not (isn_of_fin (nearF_fin h4))]
        exact this)
      generalize fx.getD (0) 0 = px at QP0 QD
      generalize fy.getD (0) 0 = py at QP0 QD
      generalize fx.getD (1) 0 = pz at QP1 QD
      generalize fy.getD (1) 0 = pt at QP1 QD
      rw [← hdd0] at QD
      clear hdd0
      go_wp2_with fail
      refine wp_region_inv4 (fun iq wv v => match iq with
        | 0 => v = .agg #[.slice X fx.length cx, .slice Y fy.length cy, .float .f32 fr, .float .f32 fd, .float .f32 fs]
        | 1 => v = .agg #[.float .f32 px, .float .f32 py]
        | 2 => v = .agg #[.slice X fx.length cx, .slice Y fy.length cy, .float .f32 fr, .float .f32 fd, .float .f32 fs]
        | 3 => v = .agg #[.float .f32 pz, .float .f32 pt]
        | 4 => ∃ r, v = .float .f32 r ∧ canon .f32 r = dd
        | 5 => ∃ r, v = .float .f32 r ∧ canon .f32 r = dd
        | _ => False) (fun _ ww => Below w1.heap.size w1 ww) (fun w w' => Below w.heap.size w w') ?hmono (by kernel_rfl) (by kernel_rfl) ((Below.refl _ _).drew) ?hop ?hend
      case hmono =>
        intro i wa wb v hR hV
        rcases i with _ | _ | _ | _ | _ | _ | i
        · exact hV
        · exact hV
        · exact hV
        · exact hV
        · (obtain ⟨r, rfl, hr⟩ := hV; exact ⟨r, rfl, hr⟩)
        · (obtain ⟨r, rfl, hr⟩ := hV; exact ⟨r, rfl, hr⟩)
        · exact hV
      case hop =>
        intro q o hq listed act w3 hI hnot hcl hall
        have hB := hI.cls; obtain ⟨k0, k1, k2, k3, k4⟩ := (K1.out.below hB).five
        rcases q with _ | _ | _ | _ | _ | _ | q
        · simp at hq; subst hq
          have g1 : act.tmps[1]?.getD undef = .pointer (some ⟨w.heap.size, 0, none⟩) := hI.kept 1 (by kernel_rfl)
          clear hI hall hnot hcl
          refine .inl ⟨wanted_none rfl, ?_⟩
          unfold Oper.wp
          go_simp
          all_goals first | exact ⟨_, rfl, Below.refl _ _, rfl, hB⟩ | exact ⟨Below.refl _ _, hB⟩ | exact Below.refl _ _
        · simp at hq; subst hq
          have g21 : act.tmps[21]?.getD undef = .agg #[.slice X fx.length cx, .slice Y fy.length cy, .float .f32 fr, .float .f32 fd, .float .f32 fs] := hI.has 0 21 rfl (hall ⟨0, .data⟩ (by simp) rfl)
          clear hI hall hnot hcl
          refine .inl ⟨wanted_none rfl, ?_⟩
          unfold Oper.wp
          go_simp
          refine (QP0 _ (below_of B1.out B1.out.size hB)).out.mono ?_
          rintro e w4 ⟨rfl, b4⟩
          exact ⟨_, rfl, b4, rfl, below_of hB hB.size b4⟩
        · simp at hq; subst hq
          have g1 : act.tmps[1]?.getD undef = .pointer (some ⟨w.heap.size, 0, none⟩) := hI.kept 1 (by kernel_rfl)
          clear hI hall hnot hcl
          refine .inl ⟨wanted_none rfl, ?_⟩
          unfold Oper.wp
          go_simp
          all_goals first | exact ⟨_, rfl, Below.refl _ _, rfl, hB⟩ | exact ⟨Below.refl _ _, hB⟩ | exact Below.refl _ _
        · simp at hq; subst hq
          have g23 : act.tmps[23]?.getD undef = .agg #[.slice X fx.length cx, .slice Y fy.length cy, .float .f32 fr, .float .f32 fd, .float .f32 fs] := hI.has 2 23 rfl (hall ⟨2, .data⟩ (by simp) rfl)
          clear hI hall hnot hcl
          refine .inl ⟨wanted_none rfl, ?_⟩
          unfold Oper.wp
          go_simp
          refine (QP1 _ (below_of B1.out B1.out.size hB)).out.mono ?_
          rintro e w4 ⟨rfl, b4⟩
          exact ⟨_, rfl, b4, rfl, below_of hB hB.size b4⟩
        · simp at hq; subst hq
          have g22 : act.tmps[22]?.getD undef = .agg #[.float .f32 px, .float .f32 py] := hI.has 1 22 rfl (hall ⟨1, .data⟩ (by simp) rfl)
          have g24 : act.tmps[24]?.getD undef = .agg #[.float .f32 pz, .float .f32 pt] := hI.has 3 24 rfl (hall ⟨3, .data⟩ (by simp) rfl)
          clear hI hall hnot hcl
          refine .inl ⟨wanted_none rfl, ?_⟩
          unfold Oper.wp
          go_simp
          refine (QD _).out.mono ?_
          rintro e w4 ⟨r, rfl, hr, b4⟩
          exact ⟨_, rfl, b4, ⟨r, rfl, hr⟩, below_of hB hB.size b4⟩
        · simp at hq; subst hq
          obtain ⟨r4, g25, h4a⟩ := hI.has 4 25 rfl (hall ⟨4, .data⟩ (by simp) rfl)
          clear hI hall hnot hcl
          refine .inl ⟨wanted_none rfl, ?_⟩
          unfold Oper.wp
          go_simp
          first | exact ⟨_, rfl, Below.refl _ _, ⟨r4, rfl, h4a⟩⟩ | exact ⟨_, rfl, Below.refl _ _, ⟨r4, rfl, h4a⟩, hB⟩
        · simp at hq
      case hend =>
        intro listed act w3 hI hall
        have hB := hI.cls; obtain ⟨k0, k1, k2, k3, k4⟩ := (K1.out.below hB).five
        obtain ⟨rq, g8, hrq⟩ := hI.has 5 8 rfl (hall 5 (by decide))
        have g0 := hI.kept 0 (by kernel_rfl)
        conv at g0 => rhs; whnf
        have g1 := hI.kept 1 (by kernel_rfl)
        conv at g1 => rhs; whnf
        have g2 := hI.kept 2 (by kernel_rfl)
        conv at g2 => rhs; whnf
        have g3 := hI.kept 3 (by kernel_rfl)
        conv at g3 => rhs; whnf
        have g4 := hI.kept 4 (by kernel_rfl)
        conv at g4 => rhs; whnf
        have g5 := hI.kept 5 (by kernel_rfl)
        conv at g5 => rhs; whnf
        have g6 := hI.kept 6 (by kernel_rfl)
        conv at g6 => rhs; whnf
        have g7 := hI.kept 7 (by kernel_rfl)
        conv at g7 => rhs; whnf
        have g9 : act.tmps[9]?.getD undef = undef := hI.kept 9 (by kernel_rfl)
        have g10 : act.tmps[10]?.getD undef = undef := hI.kept 10 (by kernel_rfl)
        have g11 : act.tmps[11]?.getD undef = undef := hI.kept 11 (by kernel_rfl)
        have g12 := hI.kept 12 (by kernel_rfl)
        conv at g12 => rhs; whnf
        have g13 := hI.kept 13 (by kernel_rfl)
        conv at g13 => rhs; whnf
        have g14 := hI.kept 14 (by kernel_rfl)
        conv at g14 => rhs; whnf
        have g15 := hI.kept 15 (by kernel_rfl)
        conv at g15 => rhs; whnf
        have g16 := hI.kept 16 (by kernel_rfl)
        conv at g16 => rhs; whnf
        have g17 := hI.kept 17 (by kernel_rfl)
        conv at g17 => rhs; whnf
        have g18 := hI.kept 18 (by kernel_rfl)
        conv at g18 => rhs; whnf
        have g19 := hI.kept 19 (by kernel_rfl)
        conv at g19 => rhs; whnf
        have g20 := hI.kept 20 (by kernel_rfl)
        conv at g20 => rhs; whnf
        have g26 : act.tmps[26]?.getD undef = undef := hI.kept 26 (by kernel_rfl)
        have g27 : act.tmps[27]?.getD undef = undef := hI.kept 27 (by kernel_rfl)
        have g28 : act.tmps[28]?.getD undef = undef := hI.kept 28 (by kernel_rfl)
        have g29 : act.tmps[29]?.getD undef = undef := hI.kept 29 (by kernel_rfl)
        have g30 : act.tmps[30]?.getD undef = undef := hI.kept 30 (by kernel_rfl)
        have g31 : act.tmps[31]?.getD undef = undef := hI.kept 31 (by kernel_rfl)
        have g32 : act.tmps[32]?.getD undef = undef := hI.kept 32 (by kernel_rfl)
        have g33 : act.tmps[33]?.getD undef = undef := hI.kept 33 (by kernel_rfl)
        have g34 : act.tmps[34]?.getD undef = undef := hI.kept 34 (by kernel_rfl)
        have g35 : act.tmps[35]?.getD undef = undef := hI.kept 35 (by kernel_rfl)
        have g36 : act.tmps[36]?.getD undef = undef := hI.kept 36 (by kernel_rfl)
        have g37 : act.tmps[37]?.getD undef = undef := hI.kept 37 (by kernel_rfl)
        have g38 : act.tmps[38]?.getD undef = undef := hI.kept 38 (by kernel_rfl)
        have g39 : act.tmps[39]?.getD undef = undef := hI.kept 39 (by kernel_rfl)
        have g40 : act.tmps[40]?.getD undef = undef := hI.kept 40 (by kernel_rfl)
        have g41 : act.tmps[41]?.getD undef = undef := hI.kept 41 (by kernel_rfl)
        have g42 : act.tmps[42]?.getD undef = undef := hI.kept 42 (by kernel_rfl)
        have g43 : act.tmps[43]?.getD undef = undef := hI.kept 43 (by kernel_rfl)
        have g44 : act.tmps[44]?.getD undef = undef := hI.kept 44 (by kernel_rfl)
        have g45 : act.tmps[45]?.getD undef = undef := hI.kept 45 (by kernel_rfl)
        have g46 : act.tmps[46]?.getD undef = undef := hI.kept 46 (by kernel_rfl)
        have g47 : act.tmps[47]?.getD undef = undef := hI.kept 47 (by kernel_rfl)
        have g48 : act.tmps[48]?.getD undef = undef := hI.kept 48 (by kernel_rfl)
        have g49 : act.tmps[49]?.getD undef = undef := hI.kept 49 (by kernel_rfl)
        have g50 : act.tmps[50]?.getD undef = undef := hI.kept 50 (by kernel_rfl)
        have g51 : act.tmps[51]?.getD undef = undef := hI.kept 51 (by kernel_rfl)
        have g52 : act.tmps[52]?.getD undef = undef := hI.kept 52 (by kernel_rfl)
        have g53 : act.tmps[53]?.getD undef = undef := hI.kept 53 (by kernel_rfl)
        have g54 : act.tmps[54]?.getD undef = undef := hI.kept 54 (by kernel_rfl)
        have g55 : act.tmps[55]?.getD undef = undef := hI.kept 55 (by kernel_rfl)
        have g56 : act.tmps[56]?.getD undef = undef := hI.kept 56 (by kernel_rfl)
        have g57 : act.tmps[57]?.getD undef = undef := hI.kept 57 (by kernel_rfl)
        have hsz : act.tmps.size = 58 := hI.size.trans (by kernel_rfl)
        have hd := hI.defers
        have hB := hI.cls
        clear hI hall
        obtain ⟨tt, dd⟩ := act
        simp only at g0 g1 g2 g3 g4 g5 g6 g7 g8 g9 g10 g11 g12 g13 g14 g15 g16 g17 g18 g19 g20 g26 g27 g28 g29 g30 g31 g32 g33 g34 g35 g36 g37 g38 g39 g40 g41 g42 g43 g44 g45 g46 g47 g48 g49 g50 g51 g52 g53 g54 g55 g56 g57 hsz hd
        subst hd
        have hl : tt = #[tt[0]?.getD undef, tt[1]?.getD undef, tt[2]?.getD undef, tt[3]?.getD undef, tt[4]?.getD undef, tt[5]?.getD undef, tt[6]?.getD undef, tt[7]?.getD undef, tt[8]?.getD undef, tt[9]?.getD undef, tt[10]?.getD undef, tt[11]?.getD undef, tt[12]?.getD undef, tt[13]?.getD undef, tt[14]?.getD undef, tt[15]?.getD undef, tt[16]?.getD undef, tt[17]?.getD undef, tt[18]?.getD undef, tt[19]?.getD undef, tt[20]?.getD undef, tt[21]?.getD undef, tt[22]?.getD undef, tt[23]?.getD undef, tt[24]?.getD undef, tt[25]?.getD undef, tt[26]?.getD undef, tt[27]?.getD undef, tt[28]?.getD undef, tt[29]?.getD undef, tt[30]?.getD undef, tt[31]?.getD undef, tt[32]?.getD undef, tt[33]?.getD undef, tt[34]?.getD undef, tt[35]?.getD undef, tt[36]?.getD undef, tt[37]?.getD undef, tt[38]?.getD undef, tt[39]?.getD undef, tt[40]?.getD undef, tt[41]?.getD undef, tt[42]?.getD undef, tt[43]?.getD undef, tt[44]?.getD undef, tt[45]?.getD undef, tt[46]?.getD undef, tt[47]?.getD undef, tt[48]?.getD undef, tt[49]?.getD undef, tt[50]?.getD undef, tt[51]?.getD undef, tt[52]?.getD undef, tt[53]?.getD undef, tt[54]?.getD undef, tt[55]?.getD undef, tt[56]?.getD undef, tt[57]?.getD undef] := (arr_lit hsz).trans rfl
        rw [g0, g1, g2, g3, g4, g5, g6, g7, g8, g9, g10, g11, g12, g13, g14, g15, g16, g17, g18, g19, g20, g26, g27, g28, g29, g30, g31, g32, g33, g34, g35, g36, g37, g38, g39, g40, g41, g42, g43, g44, g45, g46, g47, g48, g49, g50, g51, g52, g53, g54, g55, g56, g57] at hl
        clear g0 g1 g2 g3 g4 g5 g6 g7 g8 g9 g10 g11 g12 g13 g14 g15 g16 g17 g18 g19 g20 g26 g27 g28 g29 g30 g31 g32 g33 g34 g35 g36 g37 g38 g39 g40 g41 g42 g43 g44 g45 g46 g47 g48 g49 g50 g51 g52 g53 g54 g55 g56 g57 hsz
        generalize tt[21]?.getD undef = y21 at hl
        generalize tt[22]?.getD undef = y22 at hl
        generalize tt[23]?.getD undef = y23 at hl
        generalize tt[24]?.getD undef = y24 at hl
        generalize tt[25]?.getD undef = y25 at hl
        subst hl
        obtain ⟨wz, hwz⟩ : ∃ x, x = w3 := ⟨_, rfl⟩
        rw [← hwz] at hB ⊢
        clear hwz
        have HB2 : Hid (Below w.heap.size w wz) := Lib.hid (below_of B1.out B1.out.size hB)
        have K2 : Hid (BlkL wz w.heap.size [.slice X fx.length cx, .slice Y fy.length cy, .float .f32 fr, .float .f32 fd, .float .f32 fs]) := Lib.hid (K1.out.below hB)
        have HRQ : Hid (canon .f32 rq = (nS0 D).2.2) := Lib.hid (hrq.trans HDD.out.symm)
        clear hB hrq QP0 QP1 QD HDD
        obtain ⟨k0, k1, k2, k3, k4⟩ := K2.out.five
        go_wp2
        clear k0 k1 k2 k3 k4
        go_loopw [6, 7, 8, 29] (fun f s l i wr => ∃ (i' a b r : Nat), i' ≤ fx.length ∧ f = .int .i64 (a : Int) ∧ s = .int .i64 (b : Int) ∧ l = .float .f32 r ∧ i = .int .i64 (i' : Int) ∧ Hid ((nOut D fx.length (nS0 D) i').1 = a) ∧ Hid ((nOut D fx.length (nS0 D) i').2.1 = b) ∧ Hid (canon .f32 r = (nOut D fx.length (nS0 D) i').2.2) ∧ Hid (Below w.heap.size w wr) ∧ Hid (BlkL wr w.heap.size [.slice X fx.length cx, .slice Y fy.length cy, .float .f32 fr, .float .f32 fd, .float .f32 fs])) (fun _ _ _ i _ => fx.length - (intOf i).toNat)
        case atStart => exact ⟨0, 0, 1, rq, Nat.zero_le _, rfl, rfl, rfl, rfl, rfl, rfl, HRQ, HB2, K2⟩
        case round =>
          obtain ⟨i, a, b, r, hi, rfl, rfl, rfl, rfl, HA0, HB0, HR0, HBo, K3⟩ := hrel
          obtain ⟨k0, k1, k2, k3, k4⟩ := K3.out.five
          by_cases hlt : i < fx.length
          · go_wp2
            clear k0 k1 k2 k3 k4
            go_loopw [6, 7, 8, 10] (fun f s l k wr => ∃ (j a b r : Nat), i + 1 + j ≤ fx.length ∧ f = .int .i64 (a : Int) ∧ s = .int .i64 (b : Int) ∧ l = .float .f32 r ∧ k = .int .i64 ((i + 1 + j : Nat) : Int) ∧ Hid ((nInn D (nOut D fx.length (nS0 D) i) i j).1 = a) ∧ Hid ((nInn D (nOut D fx.length (nS0 D) i) i j).2.1 = b) ∧ Hid (canon .f32 r = (nInn D (nOut D fx.length (nS0 D) i) i j).2.2) ∧ Hid (Below w.heap.size w wr) ∧ Hid (BlkL wr w.heap.size [.slice X fx.length cx, .slice Y fy.length cy, .float .f32 fr, .float .f32 fd, .float .f32 fs])) (fun _ _ _ k _ => fx.length - (intOf k).toNat)
            case atStart => exact ⟨0, a, b, r, by omega, rfl, rfl, rfl, by go_num, HA0, HB0, HR0, HBo, K3⟩
            case round =>
              obtain ⟨j, a, b, r, hj, rfl, rfl, rfl, rfl, HA, HBB, HR, HBr, K1⟩ := hrel
              obtain ⟨k0, k1, k2, k3, k4⟩ := K1.out.five
              by_cases hlt2 : i + 1 + j < fx.length
              · skip
                have QP0 : ∀ W, Below w.heap.size w W → Hid (Calls Try.prog 124 #[.agg #[.slice X fx.length cx, .slice Y fy.length cy, .float .f32 fr, .float .f32 fd, .float .f32 fs], .int .i64 ((i : Nat) : Int)] W fun e w' => e = .returned (.agg #[.float .f32 (fx.getD (i) 0), .float .f32 (fy.getD (i) 0)]) ∧ Below W.heap.size W w') := fun W hb => Lib.hid (i_placeOf X Y cx cy fx fy fr fd fs (i) W (HP.out.below hb) HN.out (by omega) (by have := HL.out; omega))
                have QP1 : ∀ W, Below w.heap.size w W → Hid (Calls Try.prog 124 #[.agg #[.slice X fx.length cx, .slice Y fy.length cy, .float .f32 fr, .float .f32 fd, .float .f32 fs], .int .i64 ((i + 1 + j : Nat) : Int)] W fun e w' => e = .returned (.agg #[.float .f32 (fx.getD (i + 1 + j) 0), .float .f32 (fy.getD (i + 1 + j) 0)]) ∧ Below W.heap.size W w') := fun W hb => Lib.hid (i_placeOf X Y cx cy fx fy fr fd fs (i + 1 + j) W (HP.out.below hb) HN.out (by omega) (by have := HL.out; omega))
                have QD : ∀ W, Hid (Calls Try.prog 207 #[.agg #[.float .f32 (fx.getD (i) 0), .float .f32 (fy.getD (i) 0)], .agg #[.float .f32 (fx.getD (i + 1 + j) 0), .float .f32 (fy.getD (i + 1 + j) 0)]] W fun e w' => ∃ r, e = .returned (.float .f32 r) ∧ canon .f32 r = D (i) (i + 1 + j) ∧ Below W.heap.size W w') := fun W => Lib.hid (by
                  have h1 := HNX.out (i) (by omega); have h2 := HNY.out (i) (by omega); have h3 := HNX.out (i + 1 + j) (by omega); have h4 := HNY.out (i + 1 + j) (by omega)
                  have := i_distanceOf (fx.getD (i) 0) (fy.getD (i) 0) (fx.getD (i + 1 + j) 0) (fy.getD (i + 1 + j) 0) W (nearF_fin h1) (nearF_fin h2) (nearF_fin h3) (nearF_fin h4)
                  rw [HDE.out]
                  unfold dAt
                  rw [canon_of_not (isn_of_fin (nearF_fin h1)), canon_of_not (isn_of_fin (nearF_fin h2)), canon_of_not (isn_of_fin (nearF_fin h3)), canon_of_not (isn_of_fin (nearF_fin h4))]
                  exact this)
                generalize fx.getD (i) 0 = px at QP0 QD
                generalize fy.getD (i) 0 = py at QP0 QD
                generalize fx.getD (i + 1 + j) 0 = pz at QP1 QD
                generalize fy.getD (i + 1 + j) 0 = pt at QP1 QD
                obtain ⟨dd, hdd0⟩ : ∃ x, x = D i (i + 1 + j) := ⟨_, rfl⟩
                have HDD : Hid (D i (i + 1 + j) = dd) := Lib.hid hdd0.symm
                rw [← hdd0] at QD
                clear hdd0
                go_wp2_with fail
                refine wp_region_inv4 (fun iq wv v => match iq with
                  | 0 => v = .agg #[.slice X fx.length cx, .slice Y fy.length cy, .float .f32 fr, .float .f32 fd, .float .f32 fs]
                  | 1 => v = .int .i64 (i : Int)
                  | 2 => v = .agg #[.float .f32 px, .float .f32 py]
                  | 3 => v = .agg #[.slice X fx.length cx, .slice Y fy.length cy, .float .f32 fr, .float .f32 fd, .float .f32 fs]
                  | 4 => v = .int .i64 ((i + 1 + j : Nat) : Int)
                  | 5 => v = .agg #[.float .f32 pz, .float .f32 pt]
                  | 6 => ∃ r, v = .float .f32 r ∧ canon .f32 r = dd
                  | 7 => ∃ r, v = .float .f32 r ∧ canon .f32 r = dd
                  | _ => False) (fun _ ww => Below wr.heap.size wr ww) (fun w w' => Below w.heap.size w w') ?hmono (by kernel_rfl) (by kernel_rfl) ((Below.refl _ _).drew) ?hop ?hend
                case hmono =>
                  intro i wa wb v hR hV
                  rcases i with _ | _ | _ | _ | _ | _ | _ | _ | i
                  · exact hV
                  · exact hV
                  · exact hV
                  · exact hV
                  · exact hV
                  · exact hV
                  · (obtain ⟨r, rfl, hr⟩ := hV; exact ⟨r, rfl, hr⟩)
                  · (obtain ⟨r, rfl, hr⟩ := hV; exact ⟨r, rfl, hr⟩)
                  · exact hV
                case hop =>
                  intro q o hq listed act w3 hI hnot hcl hall
                  have hB := hI.cls; obtain ⟨k0, k1, k2, k3, k4⟩ := (K1.out.below hB).five
                  rcases q with _ | _ | _ | _ | _ | _ | _ | _ | q
                  · simp at hq; subst hq
                    have g1 : act.tmps[1]?.getD undef = .pointer (some ⟨w.heap.size, 0, none⟩) := hI.kept 1 (by kernel_rfl)
                    clear hI hall hnot hcl
                    refine .inl ⟨wanted_none rfl, ?_⟩
                    unfold Oper.wp
                    go_simp
                    all_goals first | exact ⟨_, rfl, Below.refl _ _, rfl, hB⟩ | exact ⟨Below.refl _ _, hB⟩ | exact Below.refl _ _
                  · simp at hq; subst hq
                    have g9 : act.tmps[9]?.getD undef = .int .i64 (i : Int) := hI.kept 9 (by kernel_rfl)
                    clear hI hall hnot hcl
                    refine .inl ⟨wanted_none rfl, ?_⟩
                    unfold Oper.wp
                    go_simp
                    all_goals first | exact ⟨_, rfl, Below.refl _ _, rfl, hB⟩ | exact ⟨Below.refl _ _, hB⟩ | exact Below.refl _ _
                  · simp at hq; subst hq
                    have g41 : act.tmps[41]?.getD undef = .agg #[.slice X fx.length cx, .slice Y fy.length cy, .float .f32 fr, .float .f32 fd, .float .f32 fs] := hI.has 0 41 rfl (hall ⟨0, .data⟩ (by simp) rfl)
                    have g42 : act.tmps[42]?.getD undef = .int .i64 (i : Int) := hI.has 1 42 rfl (hall ⟨1, .data⟩ (by simp) rfl)
                    clear hI hall hnot hcl
                    refine .inl ⟨wanted_none rfl, ?_⟩
                    unfold Oper.wp
                    go_simp
                    refine (QP0 _ (below_of HBr.out HBr.out.size hB)).out.mono ?_
                    rintro e w4 ⟨rfl, b4⟩
                    exact ⟨_, rfl, b4, rfl, below_of hB hB.size b4⟩
                  · simp at hq; subst hq
                    have g1 : act.tmps[1]?.getD undef = .pointer (some ⟨w.heap.size, 0, none⟩) := hI.kept 1 (by kernel_rfl)
                    clear hI hall hnot hcl
                    refine .inl ⟨wanted_none rfl, ?_⟩
                    unfold Oper.wp
                    go_simp
                    all_goals first | exact ⟨_, rfl, Below.refl _ _, rfl, hB⟩ | exact ⟨Below.refl _ _, hB⟩ | exact Below.refl _ _
                  · simp at hq; subst hq
                    have g10 : act.tmps[10]?.getD undef = .int .i64 ((i + 1 + j : Nat) : Int) := hI.kept 10 (by kernel_rfl)
                    clear hI hall hnot hcl
                    refine .inl ⟨wanted_none rfl, ?_⟩
                    unfold Oper.wp
                    go_simp
                    all_goals first | exact ⟨_, rfl, Below.refl _ _, rfl, hB⟩ | exact ⟨Below.refl _ _, hB⟩ | exact Below.refl _ _
                  · simp at hq; subst hq
                    have g44 : act.tmps[44]?.getD undef = .agg #[.slice X fx.length cx, .slice Y fy.length cy, .float .f32 fr, .float .f32 fd, .float .f32 fs] := hI.has 3 44 rfl (hall ⟨3, .data⟩ (by simp) rfl)
                    have g45 : act.tmps[45]?.getD undef = .int .i64 ((i + 1 + j : Nat) : Int) := hI.has 4 45 rfl (hall ⟨4, .data⟩ (by simp) rfl)
                    clear hI hall hnot hcl
                    refine .inl ⟨wanted_none rfl, ?_⟩
                    unfold Oper.wp
                    go_simp
                    refine (QP1 _ (below_of HBr.out HBr.out.size hB)).out.mono ?_
                    rintro e w4 ⟨rfl, b4⟩
                    exact ⟨_, rfl, b4, rfl, below_of hB hB.size b4⟩
                  · simp at hq; subst hq
                    have g43 : act.tmps[43]?.getD undef = .agg #[.float .f32 px, .float .f32 py] := hI.has 2 43 rfl (hall ⟨2, .data⟩ (by simp) rfl)
                    have g46 : act.tmps[46]?.getD undef = .agg #[.float .f32 pz, .float .f32 pt] := hI.has 5 46 rfl (hall ⟨5, .data⟩ (by simp) rfl)
                    clear hI hall hnot hcl
                    refine .inl ⟨wanted_none rfl, ?_⟩
                    unfold Oper.wp
                    go_simp
                    refine (QD _).out.mono ?_
                    rintro e w4 ⟨r, rfl, hr, b4⟩
                    exact ⟨_, rfl, b4, ⟨r, rfl, hr⟩, below_of hB hB.size b4⟩
                  · simp at hq; subst hq
                    obtain ⟨r6, g47, h6a⟩ := hI.has 6 47 rfl (hall ⟨6, .data⟩ (by simp) rfl)
                    clear hI hall hnot hcl
                    refine .inl ⟨wanted_none rfl, ?_⟩
                    unfold Oper.wp
                    go_simp
                    first | exact ⟨_, rfl, Below.refl _ _, ⟨r6, rfl, h6a⟩⟩ | exact ⟨_, rfl, Below.refl _ _, ⟨r6, rfl, h6a⟩, hB⟩
                  · simp at hq
                case hend =>
                  intro listed act w3 hI hall
                  have hB := hI.cls; obtain ⟨k0, k1, k2, k3, k4⟩ := (K1.out.below hB).five
                  obtain ⟨rq, g11, hrq⟩ := hI.has 7 11 rfl (hall 7 (by decide))
                  have g6 : act.tmps[6]?.getD undef = .int .i64 (a : Int) := hI.kept 6 (by kernel_rfl)
                  have g7 : act.tmps[7]?.getD undef = .int .i64 (b : Int) := hI.kept 7 (by kernel_rfl)
                  have g8 : act.tmps[8]?.getD undef = .float .f32 r := hI.kept 8 (by kernel_rfl)
                  have g9 : act.tmps[9]?.getD undef = .int .i64 (i : Int) := hI.kept 9 (by kernel_rfl)
                  have g10 : act.tmps[10]?.getD undef = .int .i64 ((i + 1 + j : Nat) : Int) := hI.kept 10 (by kernel_rfl)
                  have g29 : act.tmps[29]?.getD undef = .int .i64 (i : Int) := hI.kept 29 (by kernel_rfl)
                  have g0 := hI.kept 0 (by kernel_rfl)
                  conv at g0 => rhs; whnf
                  have g1 := hI.kept 1 (by kernel_rfl)
                  conv at g1 => rhs; whnf
                  have g2 := hI.kept 2 (by kernel_rfl)
                  conv at g2 => rhs; whnf
                  have g3 := hI.kept 3 (by kernel_rfl)
                  conv at g3 => rhs; whnf
                  have g4 := hI.kept 4 (by kernel_rfl)
                  conv at g4 => rhs; whnf
                  have g5 := hI.kept 5 (by kernel_rfl)
                  conv at g5 => rhs; whnf
                  have g12 := hI.kept 12 (by kernel_rfl)
                  conv at g12 => rhs; whnf
                  have g13 := hI.kept 13 (by kernel_rfl)
                  conv at g13 => rhs; whnf
                  have g14 := hI.kept 14 (by kernel_rfl)
                  conv at g14 => rhs; whnf
                  have g15 := hI.kept 15 (by kernel_rfl)
                  conv at g15 => rhs; whnf
                  have g16 := hI.kept 16 (by kernel_rfl)
                  conv at g16 => rhs; whnf
                  have g17 := hI.kept 17 (by kernel_rfl)
                  conv at g17 => rhs; whnf
                  have g18 := hI.kept 18 (by kernel_rfl)
                  conv at g18 => rhs; whnf
                  have g19 := hI.kept 19 (by kernel_rfl)
                  conv at g19 => rhs; whnf
                  have g20 := hI.kept 20 (by kernel_rfl)
                  conv at g20 => rhs; whnf
                  have g21 := hI.kept 21 (by kernel_rfl)
                  conv at g21 => rhs; whnf
                  have g22 := hI.kept 22 (by kernel_rfl)
                  conv at g22 => rhs; whnf
                  have g23 := hI.kept 23 (by kernel_rfl)
                  conv at g23 => rhs; whnf
                  have g24 := hI.kept 24 (by kernel_rfl)
                  conv at g24 => rhs; whnf
                  have g25 := hI.kept 25 (by kernel_rfl)
                  conv at g25 => rhs; whnf
                  have g26 := hI.kept 26 (by kernel_rfl)
                  conv at g26 => rhs; whnf
                  have g27 := hI.kept 27 (by kernel_rfl)
                  conv at g27 => rhs; whnf
                  have g28 := hI.kept 28 (by kernel_rfl)
                  conv at g28 => rhs; whnf
                  have g30 := hI.kept 30 (by kernel_rfl)
                  conv at g30 => rhs; whnf
                  have g31 := hI.kept 31 (by kernel_rfl)
                  conv at g31 => rhs; whnf
                  have g32 := hI.kept 32 (by kernel_rfl)
                  conv at g32 => rhs; whnf
                  have g33 := hI.kept 33 (by kernel_rfl)
                  conv at g33 => rhs; whnf
                  have g54 := hI.kept 54 (by kernel_rfl)
                  conv at g54 => rhs; whnf
                  have g55 : act.tmps[55]?.getD undef = undef := hI.kept 55 (by kernel_rfl)
                  have g56 : act.tmps[56]?.getD undef = undef := hI.kept 56 (by kernel_rfl)
                  have g57 : act.tmps[57]?.getD undef = undef := hI.kept 57 (by kernel_rfl)
                  have hsz : act.tmps.size = 58 := hI.size.trans (by kernel_rfl)
                  have hd := hI.defers
                  have hB := hI.cls
                  clear hI hall
                  obtain ⟨tt, dd⟩ := act
                  simp only at g0 g1 g2 g3 g4 g5 g6 g7 g8 g9 g10 g11 g12 g13 g14 g15 g16 g17 g18 g19 g20 g21 g22 g23 g24 g25 g26 g27 g28 g29 g30 g31 g32 g33 g54 g55 g56 g57 hsz hd
                  subst hd
                  have hl : tt = #[tt[0]?.getD undef, tt[1]?.getD undef, tt[2]?.getD undef, tt[3]?.getD undef, tt[4]?.getD undef, tt[5]?.getD undef, tt[6]?.getD undef, tt[7]?.getD undef, tt[8]?.getD undef, tt[9]?.getD undef, tt[10]?.getD undef, tt[11]?.getD undef, tt[12]?.getD undef, tt[13]?.getD undef, tt[14]?.getD undef, tt[15]?.getD undef, tt[16]?.getD undef, tt[17]?.getD undef, tt[18]?.getD undef, tt[19]?.getD undef, tt[20]?.getD undef, tt[21]?.getD undef, tt[22]?.getD undef, tt[23]?.getD undef, tt[24]?.getD undef, tt[25]?.getD undef, tt[26]?.getD undef, tt[27]?.getD undef, tt[28]?.getD undef, tt[29]?.getD undef, tt[30]?.getD undef, tt[31]?.getD undef, tt[32]?.getD undef, tt[33]?.getD undef, tt[34]?.getD undef, tt[35]?.getD undef, tt[36]?.getD undef, tt[37]?.getD undef, tt[38]?.getD undef, tt[39]?.getD undef, tt[40]?.getD undef, tt[41]?.getD undef, tt[42]?.getD undef, tt[43]?.getD undef, tt[44]?.getD undef, tt[45]?.getD undef, tt[46]?.getD undef, tt[47]?.getD undef, tt[48]?.getD undef, tt[49]?.getD undef, tt[50]?.getD undef, tt[51]?.getD undef, tt[52]?.getD undef, tt[53]?.getD undef, tt[54]?.getD undef, tt[55]?.getD undef, tt[56]?.getD undef, tt[57]?.getD undef] := (arr_lit hsz).trans rfl
                  rw [g0, g1, g2, g3, g4, g5, g6, g7, g8, g9, g10, g11, g12, g13, g14, g15, g16, g17, g18, g19, g20, g21, g22, g23, g24, g25, g26, g27, g28, g29, g30, g31, g32, g33, g54, g55, g56, g57] at hl
                  clear g0 g1 g2 g3 g4 g5 g6 g7 g8 g9 g10 g11 g12 g13 g14 g15 g16 g17 g18 g19 g20 g21 g22 g23 g24 g25 g26 g27 g28 g29 g30 g31 g32 g33 g54 g55 g56 g57 hsz
                  generalize tt[34]?.getD undef = y34 at hl
                  generalize tt[35]?.getD undef = y35 at hl
                  generalize tt[36]?.getD undef = y36 at hl
                  generalize tt[37]?.getD undef = y37 at hl
                  generalize tt[38]?.getD undef = y38 at hl
                  generalize tt[39]?.getD undef = y39 at hl
                  generalize tt[40]?.getD undef = y40 at hl
                  generalize tt[41]?.getD undef = y41 at hl
                  generalize tt[42]?.getD undef = y42 at hl
                  generalize tt[43]?.getD undef = y43 at hl
                  generalize tt[44]?.getD undef = y44 at hl
                  generalize tt[45]?.getD undef = y45 at hl
                  generalize tt[46]?.getD undef = y46 at hl
                  generalize tt[47]?.getD undef = y47 at hl
                  generalize tt[48]?.getD undef = y48 at hl
                  generalize tt[49]?.getD undef = y49 at hl
                  generalize tt[50]?.getD undef = y50 at hl
                  generalize tt[51]?.getD undef = y51 at hl
                  generalize tt[52]?.getD undef = y52 at hl
                  generalize tt[53]?.getD undef = y53 at hl
                  subst hl
                  obtain ⟨wz, hwz⟩ : ∃ x, x = w3 := ⟨_, rfl⟩
                  rw [← hwz] at hB ⊢
                  clear hwz
                  have HB2 : Hid (Below w.heap.size w wz) := Lib.hid (below_of HBr.out HBr.out.size hB)
                  have HK2 : Hid (BlkL wz w.heap.size [.slice X fx.length cx, .slice Y fy.length cy, .float .f32 fr, .float .f32 fd, .float .f32 fs]) := Lib.hid (K1.out.below hB)
                  have HLS : Hid (lss32 rq r = lss32 (D i (i + 1 + j)) (nInn D (nOut D fx.length (nS0 D) i) i j).2.2) := Lib.hid (lss_canon (hrq.trans HDD.out.symm) HR.out)
                  have HRQ : Hid (canon .f32 rq = D i (i + 1 + j)) := Lib.hid (hrq.trans HDD.out.symm)
                  clear hB hrq
                  cases pl : lss32 rq r
                  · have HS : Hid (nInn D (nOut D fx.length (nS0 D) i) i (j + 1) = nInn D (nOut D fx.length (nS0 D) i) i j) := Lib.hid (by simp only [nInn, nStep]; rw [← HLS.out, pl]; rfl)
                    unfold lss32 at pl
                    go_wp2
                    go_roundw
                    case rel => exact ⟨j + 1, a, b, r, by omega, rfl, rfl, rfl, by go_num, Lib.hid (by rw [HS.out]; exact HA.out), Lib.hid (by rw [HS.out]; exact HBB.out), Lib.hid (by rw [HS.out]; exact HR.out), HB2, HK2⟩
                    case measure => simp [intOf]; omega
                  · have HS : Hid (nInn D (nOut D fx.length (nS0 D) i) i (j + 1) = (i, i + 1 + j, D i (i + 1 + j))) := Lib.hid (by simp only [nInn, nStep]; rw [← HLS.out, pl]; rfl)
                    unfold lss32 at pl
                    go_wp2
                    go_roundw
                    case rel => exact ⟨j + 1, i, i + 1 + j, rq, by omega, rfl, rfl, rfl, by go_num, Lib.hid (by rw [HS.out]), Lib.hid (by rw [HS.out]), Lib.hid (by rw [HS.out]; exact HRQ.out), HB2, HK2⟩
                    case measure => simp [intOf]; omega
              · have hjj : i + 1 + j = fx.length := by omega
                have hj2 : fx.length - (i + 1) = j := by omega
                have HS : Hid (nOut D fx.length (nS0 D) (i + 1) = nInn D (nOut D fx.length (nS0 D) i) i j) := Lib.hid (by simp only [nOut]; rw [hj2])
                clear hj2
                go_wp2
                go_roundw
                case rel => exact ⟨i + 1, a, b, r, by omega, rfl, rfl, rfl, by go_num, Lib.hid (by rw [HS.out]; exact HA.out), Lib.hid (by rw [HS.out]; exact HBB.out), Lib.hid (by rw [HS.out]; exact HR.out), HBr, K1⟩
                case measure => simp [intOf]; omega
          · have hii : i = fx.length := by omega
            subst hii
            go_wp2
            refine bodyPost_ret (v := .tuple #[.int .i64 (a : Int), .int .i64 (b : Int), .float .f32 r, .bool true]) (by simp [results, Try.results176, go_sem]) rfl ?_
            exact ⟨r, by unfold nearA nearB nearS; rw [HO.out, ← HDE.out, HA0.out, HB0.out]; rfl, by unfold nearR nearS; rw [HO.out, ← HDE.out, HR0.out]; rfl, HBo.out⟩
    · have HO : Hid (nearO fx fy fr fd fs = false) := Lib.hid (by unfold nearO; rw [decide_eq_false h2]; simp)
      go_wp2
      refine bodyPost_ret (v := .tuple #[.int .i64 0, .int .i64 0, .float .f32 0, .bool false]) (by simp [results, Try.results176, go_sem]) rfl ?_
      exact ⟨0, by unfold nearA nearB; rw [HO.out]; rfl, by unfold nearR; rw [HO.out]; exact canon_zero, B1.out⟩
def SpN (seen : Bool) (s : Nat × Nat × Nat) (a b : Int) (r : Nat) : Prop := (seen = false → a = -1 ∧ b = -1 ∧ r = 0) ∧ (seen = true → a = s.1 ∧ b = s.2.1 ∧ canon .f32 r = s.2.2)
set_option maxHeartbeats 4000000 in
set_option maxRecDepth 100000 in
theorem s_l06Nearest (X Y : Option Addr) (cx cy : Nat) (fx fy : List Nat) (fr fd fs : Nat) (B : Nat) (w : World) (h : Rs w X Y fx fy) (hk : BlkL w B [.slice X fx.length cx, .slice Y fy.length cy, .float .f32 fr, .float .f32 fd, .float .f32 fs]) (hv : frmV fx fy fr fd fs = true) (h2 : 2 ≤ fx.length) :
    Calls Try.prog 205 #[.pointer (some ⟨B, 0, none⟩)] w fun e w' => ∃ r, e = .returned (.tuple #[.int .i64 (nearS fx fy).1, .int .i64 (nearS fx fy).2.1, .float .f32 r, .bool true]) ∧ canon .f32 r = (nearS fx fy).2.2 ∧ ∃ n, w' = w.drewN n := by
  obtain ⟨hx, hy, hl, h12, -⟩ := near_model hv
  have HNX := Lib.hid hx; have HNY := Lib.hid hy; have HL := Lib.hid hl
  obtain ⟨b, off, rfl, -, -⟩ := h.1.at_ (show 0 < fx.length by omega)
  obtain ⟨b', off', rfl, -, -⟩ := h.2.at_ (show 0 < fy.length by omega)
  have HP := Lib.hid h
  obtain ⟨k0, k1, k2, k3, k4⟩ := hk.five
  obtain ⟨D, hD0⟩ : ∃ D, D = dAt fx fy := ⟨_, rfl⟩
  have HDE := Lib.hid hD0
  clear hD0 h hk hv hx hy hl
  go_enter Try.func205, Try.ntmps205
  go_wp2
  go_loopw [6, 7, 8, 9] (fun f s l i wr => ∃ (i' : Nat) (a b : Int) (r m : Nat), i' ≤ fx.length ∧ f = .int .i64 a ∧ s = .int .i64 b ∧ l = .float .f32 r ∧ i = .int .i64 (i' : Int) ∧ Hid (SpN (decide (0 < i')) (nOut D fx.length (nS0 D) i') a b r) ∧ wr = w.drewN m) (fun _ _ _ i _ => fx.length - (intOf i).toNat)
  case atStart => exact ⟨0, -1, -1, 0, 0, Nat.zero_le _, rfl, rfl, rfl, rfl, Lib.hid ⟨fun _ => ⟨rfl, rfl, rfl⟩, fun hh => by simp at hh⟩, rfl⟩
  case round =>
    obtain ⟨i, a, bb, r, m, hi, rfl, rfl, rfl, rfl, HS0, rfl⟩ := hrel
    by_cases hlt : i < fx.length
    · go_wp2
      go_loopw [6, 7, 8, 10] (fun f s l k wr => ∃ (j : Nat) (a b : Int) (r m : Nat), i + 1 + j ≤ fx.length ∧ f = .int .i64 a ∧ s = .int .i64 b ∧ l = .float .f32 r ∧ k = .int .i64 ((i + 1 + j : Nat) : Int) ∧ Hid (SpN (decide (0 < i ∨ 0 < j)) (nInn D (nOut D fx.length (nS0 D) i) i j) a b r) ∧ wr = w.drewN m) (fun _ _ _ k _ => fx.length - (intOf k).toNat)
      case atStart => exact ⟨0, a, bb, r, m, by omega, rfl, rfl, rfl, by go_num, Lib.hid (by have := HS0.out; rw [show decide (0 < i ∨ 0 < 0) = decide (0 < i) by simp]; exact this), rfl⟩
      case round =>
        obtain ⟨j, a, bb, r, m, hj, rfl, rfl, rfl, rfl, HSP, rfl⟩ := hrel
        by_cases hlt2 : i + 1 + j < fx.length
        · have hly : i + 1 + j < fy.length := by have := HL.out; omega
          have hli : i < fy.length := by omega
          have h1 := HNX.out i hlt; have h3 := HNY.out i hlt; have h4 := HNX.out (i + 1 + j) hlt2; have h5 := HNY.out (i + 1 + j) hlt2
          have hc := HP.out.1.same rfl hlt
          have hc2 := HP.out.1.same rfl hlt2
          have hc3 := HP.out.2.same rfl hli
          have hc4 := HP.out.2.same rfl hly
          have HDD : Hid (D i (i + 1 + j) = dstN (fx.getD (i + 1 + j) 0) (fy.getD (i + 1 + j) 0) (fx.getD i 0) (fy.getD i 0)) := Lib.hid (by
            rw [HDE.out]
            unfold dAt
            rw [canon_of_not (isn_of_fin (nearF_fin h1)), canon_of_not (isn_of_fin (nearF_fin h3)), canon_of_not (isn_of_fin (nearF_fin h4)), canon_of_not (isn_of_fin (nearF_fin h5))]
            exact dstN_comm (nearF_fin h1) (nearF_fin h3) (nearF_fin h4) (nearF_fin h5))
          generalize fx.getD i 0 = pz at *
          generalize fy.getD i 0 = pt at *
          generalize fx.getD (i + 1 + j) 0 = px at *
          generalize fy.getD (i + 1 + j) 0 = py at *
          obtain ⟨s1, s2⟩ := fop_sure (sub_num (nearF_fin h4) (nearF_fin h1))
          obtain ⟨t1, t2⟩ := fop_sure (sub_num (nearF_fin h5) (nearF_fin h3))
          have HDD2 : Hid (D i (i + 1 + j) = canon .f32 (rootF (fop .add .f32 (fop .mul .f32 (fop .sub .f32 px pz) (fop .sub .f32 px pz)) (fop .mul .f32 (fop .sub .f32 py pt) (fop .sub .f32 py pt))))) := Lib.hid HDD.out
          have HU : Hid (canon .f32 (fop .sub .f32 px pz) = fop .sub .f32 px pz) := Lib.hid (canon_fop ..)
          have HV : Hid (canon .f32 (fop .sub .f32 py pt) = fop .sub .f32 py pt) := Lib.hid (canon_fop ..)
          generalize fop .sub .f32 px pz = u at *
          generalize fop .sub .f32 py pt = v at *
          clear h1 h3 h4 h5 HDD
          go_wp2
          go_region
          all_goals
            go_wp2
            go_region
          all_goals
            go_wp2_with fail
            refine (s_l01Sqrt _ _).mono ?_
            rintro e w' ⟨rd, nd, rfl, hrd, rfl⟩
            have HRD : Hid (canon .f32 rd = D i (i + 1 + j)) := Lib.hid (by rw [hrd, HDD2.out, canonF (canonF HU.out HU.out) (canonF HV.out HV.out)])
            clear hrd hc hc2 hc3 hc4 s1 s2 t1 t2
            by_cases hs : i = 0 ∧ j = 0
            · skip
              obtain ⟨rfl, rfl, rfl⟩ := HSP.out.1 (by simp [hs.1, hs.2])
              have HHS := Lib.hid hs
              clear hs
              go_wp2
              go_roundw
              case rel =>
                refine ⟨j + 1, (i : Int), ((i + 1 + j : Nat) : Int), rd, _, by omega, rfl, rfl, rfl, by go_num, Lib.hid ⟨fun hh => by simp at hh, fun _ => ?_⟩, by first | rfl | (simp only [World.drewN_drewN]; rfl)⟩
                obtain ⟨rfl, rfl⟩ := HHS.out
                have e : nInn D (nOut D fx.length (nS0 D) 0) 0 (0 + 1) = nS0 D := nStep_first D
                rw [e]
                exact ⟨rfl, rfl, HRD.out⟩
              case measure => simp [intOf]; omega
            · skip
              obtain ⟨e1, e2, e3⟩ := HSP.out.2 (by simp; omega)
              obtain ⟨a', rfl⟩ : ∃ a' : Nat, a = a' := ⟨_, e1⟩
              have ha : ¬ ((a' : Int) < 0) := by omega
              have HLS : Hid (lss32 rd r = lss32 (D i (i + 1 + j)) (nInn D (nOut D fx.length (nS0 D) i) i j).2.2) := Lib.hid (lss_canon HRD.out e3)
              clear e1 e2 e3
              cases pl : lss32 rd r
              · have HS : Hid (nInn D (nOut D fx.length (nS0 D) i) i (j + 1) = nInn D (nOut D fx.length (nS0 D) i) i j) := Lib.hid (by simp only [nInn, nStep]; rw [← HLS.out, pl]; rfl)
                unfold lss32 at pl
                go_wp2
                go_roundw
                case rel => exact ⟨j + 1, _, _, _, _, by omega, rfl, rfl, rfl, by go_num, Lib.hid ⟨fun hh => by simp at hh, fun _ => by rw [HS.out]; exact HSP.out.2 (by simp; omega)⟩, by first | rfl | (simp only [World.drewN_drewN]; rfl)⟩
                case measure => simp [intOf]; omega
              · have HS : Hid (nInn D (nOut D fx.length (nS0 D) i) i (j + 1) = (i, i + 1 + j, D i (i + 1 + j))) := Lib.hid (by simp only [nInn, nStep]; rw [← HLS.out, pl]; rfl)
                unfold lss32 at pl
                go_wp2
                go_roundw
                case rel => exact ⟨j + 1, _, _, _, _, by omega, rfl, rfl, rfl, by go_num, Lib.hid ⟨fun hh => by simp at hh, fun _ => by rw [HS.out]; exact ⟨rfl, rfl, HRD.out⟩⟩, by first | rfl | (simp only [World.drewN_drewN]; rfl)⟩
                case measure => simp [intOf]; omega
        · have hj2 : fx.length - (i + 1) = j := by omega
          have HS : Hid (nOut D fx.length (nS0 D) (i + 1) = nInn D (nOut D fx.length (nS0 D) i) i j) := Lib.hid (by simp only [nOut]; rw [hj2])
          have HS2 : Hid (SpN true (nInn D (nOut D fx.length (nS0 D) i) i j) a bb r) := Lib.hid (by have := HSP.out; rw [decide_eq_true (show 0 < i ∨ 0 < j by omega)] at this; exact this)
          clear hj2
          go_wp2
          go_roundw
          case rel => exact ⟨i + 1, a, bb, r, _, by omega, rfl, rfl, rfl, by go_num, Lib.hid (by rw [HS.out, decide_eq_true (Nat.succ_pos i)]; exact HS2.out), rfl⟩
          case measure => simp [intOf]; omega
    · have hii : i = fx.length := by omega
      subst hii
      obtain ⟨e1, e2, e3⟩ := HS0.out.2 (by simp; omega)
      have E1 := Lib.hid e1; have E2 := Lib.hid e2; have E3 := Lib.hid e3
      obtain ⟨a', rfl⟩ : ∃ a' : Nat, a = a' := ⟨_, e1⟩
      clear e1 e2 e3
      go_wp2
      refine bodyPost_ret (v := .tuple #[.int .i64 (a' : Int), .int .i64 bb, .float .f32 r, .bool true]) (by simp [results, Try.results205, go_sem]) rfl ?_
      exact ⟨r, by unfold nearS; rw [← HDE.out, ← E1.out, ← E2.out], by unfold nearS; rw [← HDE.out]; exact E3.out, _, rfl⟩
set_option maxHeartbeats 4000000 in
set_option maxRecDepth 100000 in
theorem s_l06Nearest_one (X Y : Option Addr) (cx cy : Nat) (fx fy : List Nat) (fr fd fs : Nat) (B : Nat) (w : World) (hk : BlkL w B [.slice X fx.length cx, .slice Y fy.length cy, .float .f32 fr, .float .f32 fd, .float .f32 fs]) (h1 : fx.length = 1) :
    Calls Try.prog 205 #[.pointer (some ⟨B, 0, none⟩)] w fun e w' => e = .returned (.tuple #[.int .i64 (-1), .int .i64 (-1), .float .f32 0, .bool false]) ∧ ∃ n, w' = w.drewN n := by
  rw [h1] at hk
  obtain ⟨k0, k1, k2, k3, k4⟩ := hk.five
  clear hk h1
  go_enter Try.func205, Try.ntmps205
  go_wp2
  go_loopw [6, 7, 8, 9] (fun f s l i wr => ∃ (i' m : Nat), i' ≤ 1 ∧ f = .int .i64 (-1) ∧ s = .int .i64 (-1) ∧ l = .float .f32 0 ∧ i = .int .i64 (i' : Int) ∧ wr = w.drewN m) (fun _ _ _ i _ => 1 - (intOf i).toNat)
  case atStart => exact ⟨0, 0, Nat.zero_le _, rfl, rfl, rfl, rfl, rfl⟩
  case round =>
    obtain ⟨i, m, hi, rfl, rfl, rfl, rfl, rfl⟩ := hrel
    by_cases hlt : i < 1
    · go_wp2
      go_loopw [6, 7, 8, 10] (fun f s l k wr => ∃ (m : Nat), f = .int .i64 (-1) ∧ s = .int .i64 (-1) ∧ l = .float .f32 0 ∧ k = .int .i64 ((i : Int) + 1) ∧ wr = w.drewN m) (fun _ _ _ _ _ => 0)
      case atStart => exact ⟨m, rfl, rfl, rfl, by go_num, rfl⟩
      case round =>
        obtain ⟨m, rfl, rfl, rfl, rfl, rfl⟩ := hrel
        go_wp2
        go_roundw
        case rel => exact ⟨i + 1, _, by omega, rfl, rfl, rfl, by go_num, rfl⟩
        case measure => simp [intOf]; omega
    · go_wp2
      refine bodyPost_ret (v := .tuple #[.int .i64 (-1), .int .i64 (-1), .float .f32 0, .bool false]) (by simp [results, Try.results205, go_sem]) rfl ?_
      exact ⟨rfl, _, rfl⟩
end Go.Proofs.Ytmadlabnhjhfiaa
