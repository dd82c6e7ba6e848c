/- Mixed loads: both sides. No statement is proved here. -/
import Derived.Test.YtpchkedgjikpfaaLoad
import Derived.Test.YtpchkedgjikpfaaApp
namespace Go.Proofs.Ytpchkedgjikpfaa
open Go Go.RowKit
theorem BlkL.one {w : World} {B : Nat} {v0 : Value} (h : BlkL w B [v0]) : w.cell? ⟨B, 0, none⟩ = some v0 := (h.2 0 _ rfl).1
def mixV (a b : List Nat) (x y k : Nat) : Nat := fop .add .f32 (fop .mul .f32 (canon .f32 x) (canon .f32 (a.getD k 0))) (fop .mul .f32 (canon .f32 y) (canon .f32 (b.getD k 0)))
def mixC (a b : List Nat) (x y : Nat) : Bool := ldV a && (ldV b && (decide (a.length = b.length) && (fin .f32 x && fin .f32 y)))
def mixO (a b : List Nat) (x y : Nat) : Bool := mixC a b x y && alls (fun i => fin .f32 (mixV a b x y i)) a.length
def mixL (a b : List Nat) (x y : Nat) : List Nat := if mixO a b x y then (List.range a.length).map (mixV a b x y) else []
theorem mixO_c {a b : List Nat} {x y : Nat} (h : mixC a b x y = false) : mixO a b x y = false := by unfold mixO; rw [h]; rfl
theorem mixO_a {a b : List Nat} {x y k : Nat} (h : alls (fun i => fin .f32 (mixV a b x y i)) k = false) (hk : k ≤ a.length) : mixO a b x y = false := by unfold mixO; rw [alls_no h hk, Bool.and_false]
theorem mixO_yes {a b : List Nat} {x y : Nat} (h : mixC a b x y = true) (h2 : alls (fun i => fin .f32 (mixV a b x y i)) a.length = true) : mixO a b x y = true := by unfold mixO; rw [h, h2]; rfl
theorem mixO_at {a b : List Nat} {x y : Nat} (h : mixO a b x y = true) : ∀ k, k < a.length → fin .f32 (mixV a b x y k) = true := by unfold mixO at h; rw [Bool.and_eq_true] at h; exact alls_at h.2
theorem mixL_no {a b : List Nat} {x y : Nat} (h : mixO a b x y = false) : mixL a b x y = [] := by unfold mixL; rw [h]; rfl
theorem mixL_yes {a b : List Nat} {x y : Nat} (h : mixO a b x y = true) : mixL a b x y = (List.range a.length).map (mixV a b x y) := by unfold mixL; rw [h]; rfl
theorem mixL_len {a b : List Nat} {x y : Nat} (h : mixO a b x y = true) : (mixL a b x y).length = a.length := by rw [mixL_yes h]; simp
theorem mixL_few (a b : List Nat) (x y : Nat) (h : a.length ≤ 1048576) : (mixL a b x y).length ≤ 1048576 := by
  cases ho : mixO a b x y
  · rw [mixL_no ho]; simp
  · rw [mixL_len ho]; exact h
theorem fins_alls {ys : List Nat} {q : Nat → Nat} {n : Nat} (h : ∀ k, k < n → canon .f32 (ys.getD k 0) = q k) : ∀ k, k ≤ n → fins ys k = alls (fun i => fin .f32 (q i)) k := by
  intro k; induction k with
  | zero => intro _; rfl
  | succ k ih => intro hk; simp only [fins, alls, ih (by omega)]; rw [← h k (by omega), fin_canon]

theorem i_onlyFiniteList_yes (A : Option Addr) (cap : Nat) (xs : List Nat) (w : World) (h : Fl w A xs) (hn : xs.length ≤ 1048576) (hf : fins xs xs.length = true) :
    Calls Try.prog 75 #[.slice A xs.length cap] w fun e w' => ∃ n, e = .returned (.tuple #[.slice A xs.length cap, .bool true]) ∧ w' = w.drewN n := by
  have HF := Lib.hid h; clear h
  have HV := Lib.hid hf; clear hf
  go_enter Try.func75, Try.ntmps75
  go_wp2_with fail
  refine (i_hasInfinite A cap xs _ HF.out hn).mono ?_
  rintro e w' ⟨n, rfl, rfl⟩
  rw [HV.out]
  go_wp2
  go_ret2
  exact ⟨_, rfl, rfl⟩
theorem i_onlyFiniteList_no (A : Option Addr) (cap : Nat) (xs : List Nat) (w : World) (h : Fl w A xs) (hn : xs.length ≤ 1048576) (hf : fins xs xs.length = false) :
    Calls Try.prog 75 #[.slice A xs.length cap] w fun e w' => ∃ n, e = .returned (.tuple #[.slice none 0 0, .bool false]) ∧ w' = w.drewN n := by
  have HF := Lib.hid h; clear h
  have HV := Lib.hid hf; clear hf
  go_enter Try.func75, Try.ntmps75
  go_wp2_with fail
  refine (i_hasInfinite A cap xs _ HF.out hn).mono ?_
  rintro e w' ⟨n, rfl, rfl⟩
  rw [HV.out]
  go_wp2
  go_ret2
  exact ⟨_, rfl, rfl⟩
set_option maxHeartbeats 4000000 in
set_option maxRecDepth 100000 in
theorem i_listOf_mix (c0 c1 c2 c3 : Value) (q : Nat → Nat) (n : Nat) (w : World) (hn : n ≤ 1048576)
    (hat : ∀ k, k < n → ∀ wr, Below w.heap.size w wr → Calls Try.prog 77 #[.int .i64 k, c0, c1, c2, c3] wr fun e w' => ∃ r, e = .returned (.float .f32 r) ∧ canon .f32 r = q k ∧ Below wr.heap.size wr w') :
    Calls Try.prog 76 #[.int .i64 n, .func (.func 77) #[] #[c0, c1, c2, c3]] w fun e w' => ∃ (A : Option Addr) (xs : List Nat), e = .returned (.slice A n n) ∧ xs.length = n ∧ Fl w' A xs ∧ (∀ k, k < n → canon .f32 (xs.getD k 0) = q k) ∧ Below w.heap.size w w' ∧ A = some ⟨w.heap.size, 0, none⟩ ∧ Own w' w.heap.size xs := by
  have hmk := make_f32 n w hn
  have HA := Lib.hid hat; clear hat
  go_enter Try.func76, Try.ntmps76
  go_wp2
  go_loopw [11] (fun i wr => ∃ (k : Nat) (ys : List Nat), k ≤ n ∧ i = .int .i64 k ∧ FlNew w wr w.heap.size n k ys ∧ ys.length = n ∧ Hid (∀ j, j < k → canon .f32 (ys.getD j 0) = q j)) (fun i _ => n - (intOf i).toNat)
  case atStart => exact ⟨0, List.replicate n 0, Nat.zero_le _, rfl, FlNew.start .., by simp, Lib.hid (fun j hj => absurd hj (Nat.not_lt_zero j))⟩
  case round =>
    obtain ⟨k, ys, hk, rfl, hnew, hlen, hq⟩ := hrel
    clear hmk
    by_cases hlt : k < n
    · have hcall := HA.out k hlt _ hnew.1
      have HN := Lib.hid hnew; clear hnew
      have hwr : IntKind.i64.wrap ((k : Int) + 1) = (k : Int) + 1 := IntWalk.i64_in _ (by omega)
      go_wp2_with fail
      refine hcall.mono ?_
      rintro e w1 ⟨r, rfl, hr, b1⟩
      have hn1 := HN.out.below b1
      obtain ⟨hc2, hc3⟩ := hn1.2.2.2 k hlt
      rw [if_neg (by omega)] at hc2
      have hst := (hn1.congr (ys := ys.set k r) (fun j hj => by rw [getD_lset (by omega), if_neg (by omega)])).step hlt
      rw [getD_lset (by omega), if_pos rfl] at hst
      have HS := Lib.hid hst
      have HQ : Hid (∀ j, j < k + 1 → canon .f32 ((ys.set k r).getD j 0) = q j) := Lib.hid (fun j hj => by
        rw [getD_lset (by omega)]
        by_cases e : k = j
        · rw [if_pos e, hr, e]
        · rw [if_neg e]; exact hq.out j (by omega))
      clear hst hn1 hr b1 hcall
      go_wp2
      go_roundw
      case rel => exact ⟨k + 1, ys.set k r, by omega, by go_num, HS.out, by simp [hlen], HQ⟩
      case measure => simp [intOf]; omega
    · have HN := Lib.hid hnew; clear hnew
      have hkk : k = n := by omega
      subst hkk
      go_wp2
      go_ret
      exact ⟨_, ys, rfl, hlen, by subst hlen; exact HN.out.done (Nat.le_refl _), hq.out, HN.out.1, rfl, by subst hlen; exact Own.of_new HN.out (Nat.le_refl _)⟩
set_option maxHeartbeats 8000000 in
set_option maxRecDepth 100000 in
theorem i_mixAt (B0 B1 B2 B3 k : Nat) (A B : Option Addr) (ca cb : Nat) (a b : List Nat) (x y : Nat) (w : World) (h : Fl w A a) (h' : Fl w B b)
    (k0 : w.cell? ⟨B0, 0, none⟩ = some (.slice A a.length ca)) (k1 : w.cell? ⟨B1, 0, none⟩ = some (.slice B b.length cb)) (k2 : w.cell? ⟨B2, 0, none⟩ = some (.float .f32 x)) (k3 : w.cell? ⟨B3, 0, none⟩ = some (.float .f32 y))
    (hk : k < a.length) (hk' : k < b.length) (hn : a.length ≤ 64) (hn' : b.length ≤ 64) :
    Calls Try.prog 77 #[.int .i64 k, .pointer (some ⟨B2, 0, none⟩), .pointer (some ⟨B0, 0, none⟩), .pointer (some ⟨B3, 0, none⟩), .pointer (some ⟨B1, 0, none⟩)] w fun e w' => ∃ r, e = .returned (.float .f32 r) ∧ canon .f32 r = mixV a b x y k ∧ ∃ n, w' = w.drewN n := by
  obtain ⟨ba, oa, rfl, -, hc⟩ := h.at_ hk
  obtain ⟨bb, ob, rfl, -, hc'⟩ := h'.at_ hk'
  unfold mixV
  generalize a.getD k 0 = p at hc ⊢
  generalize b.getD k 0 = q at hc' ⊢
  clear h h'
  have hdd : ∀ nn j, ∃ mm, (w.drewN nn).drewN j = w.drewN mm := fun nn j => ⟨nn + j, World.drewN_drewN ..⟩
  go_enter Try.func77, Try.ntmps77
  go_wp2_with fail
  refine wp_region_inv3 (fun iq v => match iq with
    | 0 => v = .float .f32 x
    | 1 => v = .slice (some ⟨ba, oa, none⟩) a.length ca
    | 2 => v = .int .i64 k
    | 3 => v = .pointer (some ⟨ba, oa + k, none⟩)
    | 4 => v = .float .f32 p
    | 5 => ∃ r, v = .float .f32 r ∧ canon .f32 r = fop .mul .f32 (canon .f32 x) (canon .f32 p)
    | 6 => v = .float .f32 y
    | 7 => v = .slice (some ⟨bb, ob, none⟩) b.length cb
    | 8 => v = .int .i64 k
    | 9 => v = .pointer (some ⟨bb, ob + k, none⟩)
    | 10 => v = .float .f32 q
    | 11 => ∃ r, v = .float .f32 r ∧ canon .f32 r = fop .mul .f32 (canon .f32 y) (canon .f32 q)
    | 12 => ∃ r, v = .float .f32 r ∧ canon .f32 r = fop .add .f32 (fop .mul .f32 (canon .f32 x) (canon .f32 p)) (fop .mul .f32 (canon .f32 y) (canon .f32 q))
    | 13 => ∃ r, v = .float .f32 r ∧ canon .f32 r = fop .add .f32 (fop .mul .f32 (canon .f32 x) (canon .f32 p)) (fop .mul .f32 (canon .f32 y) (canon .f32 q))
    | _ => False) (fun _ ww => ∃ nn, ww = w.drewN nn) (by kernel_rfl) (by kernel_rfl) ⟨1, rfl⟩ ?hop ?hend
  case hop =>
    intro q o hq listed act w3 hI hnot hcl hall
    obtain ⟨nn, rfl⟩ := hI.cls
    rcases q with _ | _ | _ | _ | _ | _ | _ | _ | _ | _ | _ | _ | _ | _ | q
    · simp at hq; subst hq
      have g1 : act.tmps[1]?.getD undef = .pointer (some ⟨B2, 0, none⟩) := hI.kept 1 (by kernel_rfl)
      clear hI hall hnot hcl
      refine .inl ⟨wanted_none rfl, ?_⟩
      unfold Oper.wp
      go_simp
      all_goals exact ⟨_, rfl, rfl, ⟨_, rfl⟩⟩
    · simp at hq; subst hq
      have g2 : act.tmps[2]?.getD undef = .pointer (some ⟨B0, 0, none⟩) := hI.kept 2 (by kernel_rfl)
      clear hI hall hnot hcl
      refine .inl ⟨wanted_none rfl, ?_⟩
      unfold Oper.wp
      go_simp
      all_goals exact ⟨_, rfl, rfl, ⟨_, rfl⟩⟩
    · simp at hq; subst hq
      have g0 : act.tmps[0]?.getD undef = .int .i64 k := hI.kept 0 (by kernel_rfl)
      clear hI hall hnot hcl
      refine .inl ⟨wanted_none rfl, ?_⟩
      unfold Oper.wp
      go_simp
      all_goals exact ⟨_, rfl, rfl, ⟨_, rfl⟩⟩
    · simp at hq; subst hq
      have g8 : act.tmps[8]?.getD undef = .slice (some ⟨ba, oa, none⟩) a.length ca := hI.has 1 8 rfl (hall ⟨1, .data⟩ (by simp) rfl)
      have g9 : act.tmps[9]?.getD undef = .int .i64 k := hI.has 2 9 rfl (hall ⟨2, .data⟩ (by simp) rfl)
      clear hI hall hnot hcl
      refine .inl ⟨wanted_none rfl, ?_⟩
      unfold Oper.wp
      go_simp
      all_goals exact ⟨_, rfl, rfl, ⟨_, rfl⟩⟩
    · simp at hq; subst hq
      have g10 : act.tmps[10]?.getD undef = .pointer (some ⟨ba, oa + k, none⟩) := hI.has 3 10 rfl (hall ⟨3, .data⟩ (by simp) rfl)
      clear hI hall hnot hcl
      refine .inl ⟨wanted_none rfl, ?_⟩
      unfold Oper.wp
      go_simp
      all_goals exact ⟨_, rfl, rfl, ⟨_, rfl⟩⟩
    · simp at hq; subst hq
      have g7 : act.tmps[7]?.getD undef = .float .f32 x := hI.has 0 7 rfl (hall ⟨0, .data⟩ (by simp) rfl)
      have g11 : act.tmps[11]?.getD undef = .float .f32 p := hI.has 4 11 rfl (hall ⟨4, .data⟩ (by simp) rfl)
      clear hI hall hnot hcl
      refine .inl ⟨wanted_none rfl, ?_⟩
      unfold Oper.wp
      go_simp
      refine (i_mulNumbers _ _ _).mono ?_
      rintro e w4 ⟨rfl, rfl⟩
      exact ⟨_, rfl, ⟨_, rfl, canonF rfl rfl⟩, by first | exact ⟨_, rfl⟩ | exact hdd _ _⟩
    · simp at hq; subst hq
      have g3 : act.tmps[3]?.getD undef = .pointer (some ⟨B3, 0, none⟩) := hI.kept 3 (by kernel_rfl)
      clear hI hall hnot hcl
      refine .inl ⟨wanted_none rfl, ?_⟩
      unfold Oper.wp
      go_simp
      all_goals exact ⟨_, rfl, rfl, ⟨_, rfl⟩⟩
    · simp at hq; subst hq
      have g4 : act.tmps[4]?.getD undef = .pointer (some ⟨B1, 0, none⟩) := hI.kept 4 (by kernel_rfl)
      clear hI hall hnot hcl
      refine .inl ⟨wanted_none rfl, ?_⟩
      unfold Oper.wp
      go_simp
      all_goals exact ⟨_, rfl, rfl, ⟨_, rfl⟩⟩
    · simp at hq; subst hq
      have g0 : act.tmps[0]?.getD undef = .int .i64 k := hI.kept 0 (by kernel_rfl)
      clear hI hall hnot hcl
      refine .inl ⟨wanted_none rfl, ?_⟩
      unfold Oper.wp
      go_simp
      all_goals exact ⟨_, rfl, rfl, ⟨_, rfl⟩⟩
    · simp at hq; subst hq
      have g14 : act.tmps[14]?.getD undef = .slice (some ⟨bb, ob, none⟩) b.length cb := hI.has 7 14 rfl (hall ⟨7, .data⟩ (by simp) rfl)
      have g15 : act.tmps[15]?.getD undef = .int .i64 k := hI.has 8 15 rfl (hall ⟨8, .data⟩ (by simp) rfl)
      clear hI hall hnot hcl
      refine .inl ⟨wanted_none rfl, ?_⟩
      unfold Oper.wp
      go_simp
      all_goals exact ⟨_, rfl, rfl, ⟨_, rfl⟩⟩
    · simp at hq; subst hq
      have g16 : act.tmps[16]?.getD undef = .pointer (some ⟨bb, ob + k, none⟩) := hI.has 9 16 rfl (hall ⟨9, .data⟩ (by simp) rfl)
      clear hI hall hnot hcl
      refine .inl ⟨wanted_none rfl, ?_⟩
      unfold Oper.wp
      go_simp
      all_goals exact ⟨_, rfl, rfl, ⟨_, rfl⟩⟩
    · simp at hq; subst hq
      have g13 : act.tmps[13]?.getD undef = .float .f32 y := hI.has 6 13 rfl (hall ⟨6, .data⟩ (by simp) rfl)
      have g17 : act.tmps[17]?.getD undef = .float .f32 q := hI.has 10 17 rfl (hall ⟨10, .data⟩ (by simp) rfl)
      clear hI hall hnot hcl
      refine .inl ⟨wanted_none rfl, ?_⟩
      unfold Oper.wp
      go_simp
      refine (i_mulNumbers _ _ _).mono ?_
      rintro e w4 ⟨rfl, rfl⟩
      exact ⟨_, rfl, ⟨_, rfl, canonF rfl rfl⟩, by first | exact ⟨_, rfl⟩ | exact hdd _ _⟩
    · simp at hq; subst hq
      obtain ⟨r5, g12, h5a⟩ := hI.has 5 12 rfl (hall ⟨5, .data⟩ (by simp) rfl)
      obtain ⟨r11, g18, h11a⟩ := hI.has 11 18 rfl (hall ⟨11, .data⟩ (by simp) rfl)
      clear hI hall hnot hcl
      refine .inl ⟨wanted_none rfl, ?_⟩
      unfold Oper.wp
      go_simp
      exact ⟨_, rfl, ⟨_, rfl, canonF h5a h11a⟩, by first | exact ⟨_, rfl⟩ | exact hdd _ _⟩
    · simp at hq; subst hq
      obtain ⟨r12, g19, h12a⟩ := hI.has 12 19 rfl (hall ⟨12, .data⟩ (by simp) rfl)
      clear hI hall hnot hcl
      refine .inl ⟨wanted_none rfl, ?_⟩
      unfold Oper.wp
      go_simp
      exact ⟨_, rfl, ⟨_, rfl, h12a⟩, ⟨_, rfl⟩⟩
    · simp at hq
  case hend =>
    intro listed act w3 hI hall
    obtain ⟨nn, rfl⟩ := hI.cls
    obtain ⟨rq, g6, hrq⟩ := hI.has 13 6 rfl (hall 13 (by decide))
    have hd := hI.defers
    clear hI hall
    go_wp2
    refine bodyPost_ret (v := .float .f32 rq) (by simp [results, Try.results77, g6, go_sem]) (by first | rfl | exact hd) ⟨rq, rfl, hrq, nn, rfl⟩
set_option maxHeartbeats 16000000 in
set_option maxRecDepth 100000 in
theorem i_MixLoads (A B : Option Addr) (ca cb : Nat) (a b : List Nat) (x y : Nat) (w : World) (h : Fl w A a) (h' : Fl w B b) (hn : a.length ≤ 1048576) (hn' : b.length ≤ 1048576) :
    Calls Try.prog 36 #[.slice A a.length ca, .slice B b.length cb, .float .f32 x, .float .f32 y] w fun e w' => ∃ A' c g, e = .returned (.tuple #[.slice A' (mixL a b x y).length c, .bool (mixO a b x y)]) ∧ OwnO w' w.heap.size A' g (mixL a b x y) ∧ Below w.heap.size w w' := by
  have HF := Lib.hid h; clear h
  have HG := Lib.hid h'; clear h'
  obtain ⟨w0, hw0⟩ : ∃ w0, w0 = ((((w.alloc (.cells #[.slice A a.length ca] 38)).alloc (.cells #[.slice B b.length cb] 38)).alloc (.cells #[.float .f32 x] 22)).alloc (.cells #[.float .f32 y] 22)) := ⟨_, rfl⟩
  have Bw0 : Hid (Below w.heap.size w w0) := Lib.hid (by rw [hw0]; exact ((((Below.refl _ _).alloc (Nat.le_refl _) _).alloc (by simp) _).alloc (by simp <;> omega) _).alloc (by simp <;> omega) _)
  have K0w0 : Hid (BlkL w0 w.heap.size [.slice A a.length ca]) := Lib.hid (by rw [hw0]; exact (((blkL_at w #[.slice A a.length ca] _ rfl).alloc _).alloc _).alloc _)
  have K1w0 : Hid (BlkL w0 (w.heap.size + 1) [.slice B b.length cb]) := Lib.hid (by rw [hw0]; exact ((blkL_at (w.alloc _) #[.slice B b.length cb] _ (by simp)).alloc _).alloc _)
  have K2w0 : Hid (BlkL w0 (w.heap.size + 1 + 1) [.float .f32 x]) := Lib.hid (by rw [hw0]; exact (blkL_at ((w.alloc _).alloc _) #[.float .f32 x] _ (by simp)).alloc _)
  have K3w0 : Hid (BlkL w0 (w.heap.size + 1 + 1 + 1) [.float .f32 y]) := Lib.hid (by rw [hw0]; exact blkL_at (((w.alloc _).alloc _).alloc _) #[.float .f32 y] _ (by simp))
  have k0 := K0w0.out.one
  have k1 := K1w0.out.one
  have k2 := K2w0.out.one
  have k3 := K3w0.out.one
  go_enter Try.func36, Try.ntmps36
  go_wp2_with fail
  rw [← hw0]
  clear hw0
  refine (i_areLoads A ca a _ (HF.out.below Bw0.out) hn).mono ?_
  rintro e w1 ⟨rfl, n1, hw⟩
  have b1 : Below w0.heap.size w0 w1 := by rw [hw]; exact below_draws (Below.refl _ _) _
  clear hw
  have Bw1 : Hid (Below w.heap.size w w1) := Lib.hid (below_of Bw0.out Bw0.out.size b1)
  have K0w1 := Lib.hid (K0w0.out.below b1)
  have K1w1 := Lib.hid (K1w0.out.below b1)
  have K2w1 := Lib.hid (K2w0.out.below b1)
  have K3w1 := Lib.hid (K3w0.out.below b1)
  clear b1 K0w0 K1w0 K2w0 K3w0 k0 k1 k2 k3
  have k0 := K0w1.out.one
  have k1 := K1w1.out.one
  have k2 := K2w1.out.one
  have k3 := K3w1.out.one
  cases v1 : ldV a
  · have HN : Hid (mixO a b x y = false) := Lib.hid (mixO_c (by unfold mixC; rw [v1]; rfl))
    go_wp2
    go_ret2
    exact ⟨none, 0, 0, by rw [HN.out, mixL_no HN.out]; rfl, .inl (mixL_no HN.out), Bw1.out⟩
  · have V1 := Lib.hid v1; clear v1
    go_wp2_with fail
    refine (i_areLoads B cb b _ (HG.out.below Bw1.out) hn').mono ?_
    rintro e w2 ⟨rfl, n2, hw⟩
    have b1 : Below w1.heap.size w1 w2 := by rw [hw]; exact below_draws (Below.refl _ _) _
    clear hw
    have Bw2 : Hid (Below w.heap.size w w2) := Lib.hid (below_of Bw1.out Bw1.out.size b1)
    have K0w2 := Lib.hid (K0w1.out.below b1)
    have K1w2 := Lib.hid (K1w1.out.below b1)
    have K2w2 := Lib.hid (K2w1.out.below b1)
    have K3w2 := Lib.hid (K3w1.out.below b1)
    clear b1 K0w1 K1w1 K2w1 K3w1 k0 k1 k2 k3
    have k0 := K0w2.out.one
    have k1 := K1w2.out.one
    have k2 := K2w2.out.one
    have k3 := K3w2.out.one
    cases v2 : ldV b
    · have HN : Hid (mixO a b x y = false) := Lib.hid (mixO_c (by unfold mixC; rw [V1.out, v2]; rfl))
      go_wp2
      go_ret2
      exact ⟨none, 0, 0, by rw [HN.out, mixL_no HN.out]; rfl, .inl (mixL_no HN.out), Bw2.out⟩
    · have V2 := Lib.hid v2; clear v2
      by_cases hl : a.length = b.length
      · have HL := Lib.hid hl
        have e1 : ((a.length : Int) != (b.length : Int)) = false := by simp; omega
        clear hl
        go_wp2_with fail
        refine (i_notFinite _ _).mono ?_
        rintro e w3 ⟨n3, rfl, hw⟩
        have b1 : Below w2.heap.size w2 w3 := by rw [hw]; exact below_draws (Below.refl _ _) _
        clear hw e1
        have Bw3 : Hid (Below w.heap.size w w3) := Lib.hid (below_of Bw2.out Bw2.out.size b1)
        have K0w3 := Lib.hid (K0w2.out.below b1)
        have K1w3 := Lib.hid (K1w2.out.below b1)
        have K2w3 := Lib.hid (K2w2.out.below b1)
        have K3w3 := Lib.hid (K3w2.out.below b1)
        clear b1 K0w2 K1w2 K2w2 K3w2 k0 k1 k2 k3
        have k0 := K0w3.out.one
        have k1 := K1w3.out.one
        have k2 := K2w3.out.one
        have k3 := K3w3.out.one
        cases v3 : fin .f32 x
        · have HN : Hid (mixO a b x y = false) := Lib.hid (mixO_c (by unfold mixC; rw [V1.out, V2.out, decide_eq_true HL.out, v3]; rfl))
          go_wp2
          go_ret2
          exact ⟨none, 0, 0, by rw [HN.out, mixL_no HN.out]; rfl, .inl (mixL_no HN.out), Bw3.out⟩
        · have V3 := Lib.hid v3; clear v3
          go_wp2_with fail
          refine (i_notFinite _ _).mono ?_
          rintro e w4 ⟨n4, rfl, hw⟩
          have b1 : Below w3.heap.size w3 w4 := by rw [hw]; exact below_draws (Below.refl _ _) _
          clear hw
          have Bw4 : Hid (Below w.heap.size w w4) := Lib.hid (below_of Bw3.out Bw3.out.size b1)
          have K0w4 := Lib.hid (K0w3.out.below b1)
          have K1w4 := Lib.hid (K1w3.out.below b1)
          have K2w4 := Lib.hid (K2w3.out.below b1)
          have K3w4 := Lib.hid (K3w3.out.below b1)
          clear b1 K0w3 K1w3 K2w3 K3w3 k0 k1 k2 k3
          have k0 := K0w4.out.one
          have k1 := K1w4.out.one
          have k2 := K2w4.out.one
          have k3 := K3w4.out.one
          cases v4 : fin .f32 y
          · have HN : Hid (mixO a b x y = false) := Lib.hid (mixO_c (by unfold mixC; rw [V1.out, V2.out, decide_eq_true HL.out, V3.out, v4]; rfl))
            go_wp2
            go_ret2
            exact ⟨none, 0, 0, by rw [HN.out, mixL_no HN.out]; rfl, .inl (mixL_no HN.out), Bw4.out⟩
          · have HC : Hid (mixC a b x y = true) := Lib.hid (by unfold mixC; rw [V1.out, V2.out, decide_eq_true HL.out, V3.out, v4]; rfl)
            have hla := (ldV_len V1.out).2
            have hlb := (ldV_len V2.out).2
            clear v4
            go_wp2_with fail
            refine (i_listOf_mix _ _ _ _ (mixV a b x y) a.length _ (by omega) (fun k hk wr hb => (i_mixAt w.heap.size (w.heap.size + 1) (w.heap.size + 1 + 1) (w.heap.size + 1 + 1 + 1) k A B ca cb a b x y wr (HF.out.below (below_of Bw4.out Bw4.out.size hb)) (HG.out.below (below_of Bw4.out Bw4.out.size hb)) (K0w4.out.below hb).one (K1w4.out.below hb).one (K2w4.out.below hb).one (K3w4.out.below hb).one hk (by have := HL.out; omega) hla hlb).mono fun e w' ⟨r, he, hr, n, hw⟩ => ⟨r, he, hr, by rw [hw]; exact below_draws (Below.refl _ _) _⟩)).mono ?_
            rintro e w5 ⟨Y, ys, rfl, hlen, -, hq, b3, rfl, hown⟩
            have Bw5 : Hid (Below w.heap.size w w5) := Lib.hid (below_of Bw4.out Bw4.out.size b3)
            have HO : Hid (OwnO w5 w.heap.size (some ⟨w4.heap.size, 0, none⟩) w4.heap.size ys) := Lib.hid (.inr ⟨rfl, Bw4.out.size, hown⟩)
            have HA : Hid (fins ys ys.length = alls (fun i => fin .f32 (mixV a b x y i)) a.length) := Lib.hid (by rw [hlen]; exact fins_alls hq _ (Nat.le_refl _))
            have HQ := Lib.hid hq
            have HE := Lib.hid hlen
            clear b3 hown hq hlen k0 k1 k2 k3 K0w4 K1w4 K2w4 K3w4
            cases pf : fins ys ys.length
            · have HN : Hid (mixO a b x y = false) := Lib.hid (mixO_a (by rw [← HA.out, pf]) (Nat.le_refl _))
              have HX : Hid (∀ cp, Calls Try.prog 75 #[.slice (some ⟨w4.heap.size, 0, none⟩) a.length cp] w5 fun e w' => ∃ n, e = .returned (.tuple #[.slice none 0 0, .bool false]) ∧ w' = w5.drewN n) := Lib.hid (fun cp => by
                have := i_onlyFiniteList_no (some ⟨w4.heap.size, 0, none⟩) cp ys w5 HO.out.fl (by rw [HE.out]; omega) pf
                rw [HE.out] at this
                exact this)
              clear pf
              go_wp2_with fail
              refine (HX.out _).mono ?_
              rintro e w' ⟨n5, rfl, rfl⟩
              go_wp2
              go_ret2
              exact ⟨none, 0, 0, by rw [HN.out, mixL_no HN.out]; rfl, .inl (mixL_no HN.out), below_draws Bw5.out _⟩
            · have HY : Hid (mixO a b x y = true) := Lib.hid (mixO_yes HC.out (by rw [← HA.out, pf]))
              have HYS : Hid (ys = mixL a b x y) := Lib.hid (by rw [mixL_yes HY.out]; exact list_exact HE.out HQ.out (mixO_at HY.out))
              have HX : Hid (∀ cp, Calls Try.prog 75 #[.slice (some ⟨w4.heap.size, 0, none⟩) a.length cp] w5 fun e w' => ∃ n, e = .returned (.tuple #[.slice (some ⟨w4.heap.size, 0, none⟩) a.length cp, .bool true]) ∧ w' = w5.drewN n) := Lib.hid (fun cp => by
                have := i_onlyFiniteList_yes (some ⟨w4.heap.size, 0, none⟩) cp ys w5 HO.out.fl (by rw [HE.out]; omega) pf
                rw [HE.out] at this
                exact this)
              clear pf
              go_wp2_with fail
              refine (HX.out _).mono ?_
              rintro e w' ⟨n5, rfl, rfl⟩
              go_wp2
              go_ret2
              exact ⟨some ⟨w4.heap.size, 0, none⟩, a.length, w4.heap.size, by rw [HY.out, mixL_len HY.out]; rfl, by rw [← HYS.out]; exact HO.out.below (below_draws (Below.refl _ _) _), below_draws Bw5.out _⟩
      · have e1 : ((a.length : Int) != (b.length : Int)) = true := by rw [bne_iff_ne]; omega
        have HN : Hid (mixO a b x y = false) := Lib.hid (mixO_c (by unfold mixC; rw [V1.out, V2.out, decide_eq_false hl]; rfl))
        go_wp2
        go_ret2
        exact ⟨none, 0, 0, by rw [HN.out, mixL_no HN.out]; rfl, .inl (mixL_no HN.out), Bw2.out⟩
set_option maxHeartbeats 16000000 in
set_option maxRecDepth 100000 in
theorem s_MixLoads (A B : Option Addr) (ca cb : Nat) (a b : List Nat) (x y : Nat) (w : World) (h : Fl w A a) (h' : Fl w B b) (hn : a.length ≤ 1048576) (hn' : b.length ≤ 1048576) :
    Calls Try.prog 35 #[.slice A a.length ca, .slice B b.length cb, .float .f32 x, .float .f32 y] w fun e w' => ∃ A' c g, e = .returned (.tuple #[.slice A' (mixL a b x y).length c, .bool (mixO a b x y)]) ∧ OwnO w' w.heap.size A' g (mixL a b x y) ∧ Below w.heap.size w w' := by
  have HF := Lib.hid h; clear h
  have HG := Lib.hid h'; clear h'
  obtain ⟨i0, hi, hz0, hz1, hz2⟩ := info_parts f32_info
  have HI := Lib.hid hi
  have HZ0 := Lib.hid hz0
  have HZ1 := Lib.hid hz1
  have HZ2 := Lib.hid hz2
  clear hi hz0 hz1 hz2
  go_enter Try.func35, Try.ntmps35
  go_wp2_with fail
  refine (s_l07Loads A ca a _ HF.out hn).mono ?_
  rintro e w1 ⟨rfl, n1, hw⟩
  have Bw1 : Hid (Below w.heap.size w w1) := Lib.hid (by rw [hw]; exact below_draws (Below.refl _ _) _)
  clear hw
  cases v1 : ldV a
  · have HN : Hid (mixO a b x y = false) := Lib.hid (mixO_c (by unfold mixC; rw [v1]; rfl))
    go_wp2
    go_ret2
    exact ⟨none, 0, 0, by rw [HN.out, mixL_no HN.out]; rfl, .inl (mixL_no HN.out), Bw1.out⟩
  · have V1 := Lib.hid v1; clear v1
    go_wp2_with fail
    refine (s_l07Loads B cb b _ (HG.out.below Bw1.out) hn').mono ?_
    rintro e w2 ⟨rfl, n2, hw⟩
    have Bw2 : Hid (Below w.heap.size w w2) := Lib.hid (by rw [hw]; exact below_draws Bw1.out _)
    clear hw
    cases v2 : ldV b
    · have HN : Hid (mixO a b x y = false) := Lib.hid (mixO_c (by unfold mixC; rw [V1.out, v2]; rfl))
      go_wp2
      go_ret2
      exact ⟨none, 0, 0, by rw [HN.out, mixL_no HN.out]; rfl, .inl (mixL_no HN.out), Bw2.out⟩
    · have V2 := Lib.hid v2; clear v2
      by_cases hl : a.length = b.length
      · have HL := Lib.hid hl
        have e1 : ((a.length : Int) != (b.length : Int)) = false := by simp; omega
        clear hl
        go_wp2_with fail
        refine (s_l01Finite _ _).mono ?_
        rintro e w3 ⟨n3, rfl, hw⟩
        have Bw3 : Hid (Below w.heap.size w w3) := Lib.hid (by rw [hw]; exact below_draws Bw2.out _)
        clear hw e1
        cases v3 : fin .f32 x
        · have HN : Hid (mixO a b x y = false) := Lib.hid (mixO_c (by unfold mixC; rw [V1.out, V2.out, decide_eq_true HL.out, v3]; rfl))
          go_wp2
          go_ret2
          exact ⟨none, 0, 0, by rw [HN.out, mixL_no HN.out]; rfl, .inl (mixL_no HN.out), Bw3.out⟩
        · have V3 := Lib.hid v3; clear v3
          go_wp2_with fail
          refine (s_l01Finite _ _).mono ?_
          rintro e w4 ⟨n4, rfl, hw⟩
          have Bw4 : Hid (Below w.heap.size w w4) := Lib.hid (by rw [hw]; exact below_draws Bw3.out _)
          clear hw
          cases v4 : fin .f32 y
          · have HN : Hid (mixO a b x y = false) := Lib.hid (mixO_c (by unfold mixC; rw [V1.out, V2.out, decide_eq_true HL.out, V3.out, v4]; rfl))
            go_wp2
            go_ret2
            exact ⟨none, 0, 0, by rw [HN.out, mixL_no HN.out]; rfl, .inl (mixL_no HN.out), Bw4.out⟩
          · have HC : Hid (mixC a b x y = true) := Lib.hid (by unfold mixC; rw [V1.out, V2.out, decide_eq_true HL.out, V3.out, v4]; rfl)
            have hla := (ldV_len V1.out).2
            have hlb := (ldV_len V2.out).2
            have HFA : Hid (Fl w4 A a) := Lib.hid (HF.out.below Bw4.out)
            have HFB : Hid (Fl w4 B b) := Lib.hid (HG.out.below Bw4.out)
            have HST : Hid (Gr (w4.alloc (.cells #[] 22)) w.heap.size (.slice (some ⟨w4.heap.size, 0, none⟩) 0 0) []) := Lib.hid (Gr.made _ _ 0 #[] Bw4.out.size (by unfold maxLen; omega) rfl)
            have HB0 : Hid (Below w.heap.size w (w4.alloc (.cells #[] 22))) := Lib.hid (Bw4.out.alloc Bw4.out.size _)
            clear v4
            go_wp2_with fail
            go_loopw [10, 41] (fun v i wr => ∃ (k : Nat) (ys : List Nat), k ≤ a.length ∧ i = .int .i64 k ∧ Hid (Gr wr w.heap.size v ys) ∧ Hid (ys.length = k) ∧ Hid (alls (fun i => fin .f32 (mixV a b x y i)) k = true) ∧ Hid (∀ j, j < k → canon .f32 (ys.getD j 0) = mixV a b x y j) ∧ Hid (Below w.heap.size w wr)) (fun _ i _ => a.length - (intOf i).toNat)
            case atStart => exact ⟨0, [], Nat.zero_le _, rfl, HST, rfl, rfl, Lib.hid (fun j hj => absurd hj (Nat.not_lt_zero j)), HB0⟩
            case round =>
              obtain ⟨k, ys, hk, rfl, HGR, HL0, HP, HQ, HBW⟩ := hrel
              by_cases hlt : k < a.length
              · have hlt2 : k < b.length := by have := HL.out; omega
                obtain ⟨ba, oa, rfl, hba, hc⟩ := (HF.out.below HBW.out).at_ hlt
                obtain ⟨bb, ob, rfl, hbb, hc'⟩ := (HG.out.below HBW.out).at_ hlt2
                have HV : Hid (mixV a b x y k = fop .add .f32 (fop .mul .f32 (canon .f32 x) (canon .f32 (a.getD k 0))) (fop .mul .f32 (canon .f32 y) (canon .f32 (b.getD k 0)))) := rfl
                generalize a.getD k 0 = p at hc HV
                generalize b.getD k 0 = q at hc' HV
                have hdd : ∀ nn j, ∃ mm, (wr.drewN nn).drewN j = wr.drewN mm := fun nn j => ⟨nn + j, World.drewN_drewN ..⟩
                clear hba hbb
                go_wp2_with fail
                refine wp_region_inv3 (fun iq v => match iq with
                  | 0 => v = .float .f32 x
                  | 1 => v = .slice (some ⟨ba, oa, none⟩) a.length ca
                  | 2 => v = .int .i64 k
                  | 3 => v = .pointer (some ⟨ba, oa + k, none⟩)
                  | 4 => v = .float .f32 p
                  | 5 => ∃ r, v = .float .f32 r ∧ canon .f32 r = fop .mul .f32 (canon .f32 x) (canon .f32 p)
                  | 6 => v = .float .f32 y
                  | 7 => v = .slice (some ⟨bb, ob, none⟩) b.length cb
                  | 8 => v = .int .i64 k
                  | 9 => v = .pointer (some ⟨bb, ob + k, none⟩)
                  | 10 => v = .float .f32 q
                  | 11 => ∃ r, v = .float .f32 r ∧ canon .f32 r = fop .mul .f32 (canon .f32 y) (canon .f32 q)
                  | 12 => ∃ r, v = .float .f32 r ∧ canon .f32 r = fop .add .f32 (fop .mul .f32 (canon .f32 x) (canon .f32 p)) (fop .mul .f32 (canon .f32 y) (canon .f32 q))
                  | 13 => ∃ r, v = .float .f32 r ∧ canon .f32 r = fop .add .f32 (fop .mul .f32 (canon .f32 x) (canon .f32 p)) (fop .mul .f32 (canon .f32 y) (canon .f32 q))
                  | _ => False) (fun _ ww => ∃ nn, ww = wr.drewN nn) (by kernel_rfl) (by kernel_rfl) ⟨1, rfl⟩ ?hop ?hend
                case hop =>
                  intro q o hq listed act w3 hI hnot hcl hall
                  obtain ⟨nn, rfl⟩ := hI.cls
                  rcases q with _ | _ | _ | _ | _ | _ | _ | _ | _ | _ | _ | _ | _ | _ | q
                  · simp at hq; subst hq
                    have g2 : act.tmps[2]?.getD undef = .float .f32 x := hI.kept 2 (by kernel_rfl)
                    clear hI hall hnot hcl
                    refine .inl ⟨wanted_none rfl, ?_⟩
                    unfold Oper.wp
                    go_simp
                    all_goals exact ⟨_, rfl, rfl, ⟨_, rfl⟩⟩
                  · simp at hq; subst hq
                    have g0 : act.tmps[0]?.getD undef = .slice (some ⟨ba, oa, none⟩) a.length ca := hI.kept 0 (by kernel_rfl)
                    clear hI hall hnot hcl
                    refine .inl ⟨wanted_none rfl, ?_⟩
                    unfold Oper.wp
                    go_simp
                    all_goals exact ⟨_, rfl, rfl, ⟨_, rfl⟩⟩
                  · simp at hq; subst hq
                    have g11 : act.tmps[11]?.getD undef = .int .i64 k := hI.kept 11 (by kernel_rfl)
                    clear hI hall hnot hcl
                    refine .inl ⟨wanted_none rfl, ?_⟩
                    unfold Oper.wp
                    go_simp
                    all_goals exact ⟨_, rfl, rfl, ⟨_, rfl⟩⟩
                  · simp at hq; subst hq
                    have g45 : act.tmps[45]?.getD undef = .slice (some ⟨ba, oa, none⟩) a.length ca := hI.has 1 45 rfl (hall ⟨1, .data⟩ (by simp) rfl)
                    have g46 : act.tmps[46]?.getD undef = .int .i64 k := hI.has 2 46 rfl (hall ⟨2, .data⟩ (by simp) rfl)
                    clear hI hall hnot hcl
                    refine .inl ⟨wanted_none rfl, ?_⟩
                    unfold Oper.wp
                    go_simp
                    all_goals exact ⟨_, rfl, rfl, ⟨_, rfl⟩⟩
                  · simp at hq; subst hq
                    have g47 : act.tmps[47]?.getD undef = .pointer (some ⟨ba, oa + k, none⟩) := hI.has 3 47 rfl (hall ⟨3, .data⟩ (by simp) rfl)
                    clear hI hall hnot hcl
                    refine .inl ⟨wanted_none rfl, ?_⟩
                    unfold Oper.wp
                    go_simp
                    all_goals exact ⟨_, rfl, rfl, ⟨_, rfl⟩⟩
                  · simp at hq; subst hq
                    have g44 : act.tmps[44]?.getD undef = .float .f32 x := hI.has 0 44 rfl (hall ⟨0, .data⟩ (by simp) rfl)
                    have g48 : act.tmps[48]?.getD undef = .float .f32 p := hI.has 4 48 rfl (hall ⟨4, .data⟩ (by simp) rfl)
                    clear hI hall hnot hcl
                    refine .inl ⟨wanted_none rfl, ?_⟩
                    unfold Oper.wp
                    go_simp
                    exact ⟨_, rfl, ⟨_, rfl, canonF rfl rfl⟩, by first | exact ⟨_, rfl⟩ | exact hdd _ _⟩
                  · simp at hq; subst hq
                    have g3 : act.tmps[3]?.getD undef = .float .f32 y := hI.kept 3 (by kernel_rfl)
                    clear hI hall hnot hcl
                    refine .inl ⟨wanted_none rfl, ?_⟩
                    unfold Oper.wp
                    go_simp
                    all_goals exact ⟨_, rfl, rfl, ⟨_, rfl⟩⟩
                  · simp at hq; subst hq
                    have g1 : act.tmps[1]?.getD undef = .slice (some ⟨bb, ob, none⟩) b.length cb := hI.kept 1 (by kernel_rfl)
                    clear hI hall hnot hcl
                    refine .inl ⟨wanted_none rfl, ?_⟩
                    unfold Oper.wp
                    go_simp
                    all_goals exact ⟨_, rfl, rfl, ⟨_, rfl⟩⟩
                  · simp at hq; subst hq
                    have g11 : act.tmps[11]?.getD undef = .int .i64 k := hI.kept 11 (by kernel_rfl)
                    clear hI hall hnot hcl
                    refine .inl ⟨wanted_none rfl, ?_⟩
                    unfold Oper.wp
                    go_simp
                    all_goals exact ⟨_, rfl, rfl, ⟨_, rfl⟩⟩
                  · simp at hq; subst hq
                    have g51 : act.tmps[51]?.getD undef = .slice (some ⟨bb, ob, none⟩) b.length cb := hI.has 7 51 rfl (hall ⟨7, .data⟩ (by simp) rfl)
                    have g52 : act.tmps[52]?.getD undef = .int .i64 k := hI.has 8 52 rfl (hall ⟨8, .data⟩ (by simp) rfl)
                    clear hI hall hnot hcl
                    refine .inl ⟨wanted_none rfl, ?_⟩
                    unfold Oper.wp
                    go_simp
                    all_goals exact ⟨_, rfl, rfl, ⟨_, rfl⟩⟩
                  · simp at hq; subst hq
                    have g53 : act.tmps[53]?.getD undef = .pointer (some ⟨bb, ob + k, none⟩) := hI.has 9 53 rfl (hall ⟨9, .data⟩ (by simp) rfl)
                    clear hI hall hnot hcl
                    refine .inl ⟨wanted_none rfl, ?_⟩
                    unfold Oper.wp
                    go_simp
                    all_goals exact ⟨_, rfl, rfl, ⟨_, rfl⟩⟩
                  · simp at hq; subst hq
                    have g50 : act.tmps[50]?.getD undef = .float .f32 y := hI.has 6 50 rfl (hall ⟨6, .data⟩ (by simp) rfl)
                    have g54 : act.tmps[54]?.getD undef = .float .f32 q := hI.has 10 54 rfl (hall ⟨10, .data⟩ (by simp) rfl)
                    clear hI hall hnot hcl
                    refine .inl ⟨wanted_none rfl, ?_⟩
                    unfold Oper.wp
                    go_simp
                    exact ⟨_, rfl, ⟨_, rfl, canonF rfl rfl⟩, by first | exact ⟨_, rfl⟩ | exact hdd _ _⟩
                  · simp at hq; subst hq
                    obtain ⟨r5, g49, h5a⟩ := hI.has 5 49 rfl (hall ⟨5, .data⟩ (by simp) rfl)
                    obtain ⟨r11, g55, h11a⟩ := hI.has 11 55 rfl (hall ⟨11, .data⟩ (by simp) rfl)
                    clear hI hall hnot hcl
                    refine .inl ⟨wanted_none rfl, ?_⟩
                    unfold Oper.wp
                    go_simp
                    exact ⟨_, rfl, ⟨_, rfl, canonF h5a h11a⟩, by first | exact ⟨_, rfl⟩ | exact hdd _ _⟩
                  · simp at hq; subst hq
                    obtain ⟨r12, g56, h12a⟩ := hI.has 12 56 rfl (hall ⟨12, .data⟩ (by simp) rfl)
                    clear hI hall hnot hcl
                    refine .inl ⟨wanted_none rfl, ?_⟩
                    unfold Oper.wp
                    go_simp
                    exact ⟨_, rfl, ⟨_, rfl, h12a⟩, ⟨_, rfl⟩⟩
                  · simp at hq
                case hend =>
                  intro listed act w3 hI hall
                  obtain ⟨nn, rfl⟩ := hI.cls
                  obtain ⟨r, g12, hr⟩ := hI.has 13 12 rfl (hall 13 (by decide))
                  have g10 : act.tmps[10]?.getD undef = u10 := hI.kept 10 (by kernel_rfl)
                  have g11 : act.tmps[11]?.getD undef = .int .i64 k := hI.kept 11 (by kernel_rfl)
                  have g41 : act.tmps[41]?.getD undef = .int .i64 k := hI.kept 41 (by kernel_rfl)
                  have g0 := hI.kept 0 (by kernel_rfl)
                  conv at g0 => rhs; whnf
                  have g1 := hI.kept 1 (by kernel_rfl)
                  conv at g1 => rhs; whnf
                  have g2 := hI.kept 2 (by kernel_rfl)
                  conv at g2 => rhs; whnf
                  have g3 := hI.kept 3 (by kernel_rfl)
                  conv at g3 => rhs; whnf
                  have g4 : act.tmps[4]?.getD undef = undef := hI.kept 4 (by kernel_rfl)
                  have g5 : act.tmps[5]?.getD undef = undef := hI.kept 5 (by kernel_rfl)
                  have g6 : act.tmps[6]?.getD undef = undef := hI.kept 6 (by kernel_rfl)
                  have g7 : act.tmps[7]?.getD undef = undef := hI.kept 7 (by kernel_rfl)
                  have g13 := hI.kept 13 (by kernel_rfl)
                  conv at g13 => rhs; whnf
                  have g14 := hI.kept 14 (by kernel_rfl)
                  conv at g14 => rhs; whnf
                  have g15 := hI.kept 15 (by kernel_rfl)
                  conv at g15 => rhs; whnf
                  have g16 := hI.kept 16 (by kernel_rfl)
                  conv at g16 => rhs; whnf
                  have g17 := hI.kept 17 (by kernel_rfl)
                  conv at g17 => rhs; whnf
                  have g18 := hI.kept 18 (by kernel_rfl)
                  conv at g18 => rhs; whnf
                  have g19 := hI.kept 19 (by kernel_rfl)
                  conv at g19 => rhs; whnf
                  have g20 := hI.kept 20 (by kernel_rfl)
                  conv at g20 => rhs; whnf
                  have g21 := hI.kept 21 (by kernel_rfl)
                  conv at g21 => rhs; whnf
                  have g22 := hI.kept 22 (by kernel_rfl)
                  conv at g22 => rhs; whnf
                  have g23 := hI.kept 23 (by kernel_rfl)
                  conv at g23 => rhs; whnf
                  have g24 := hI.kept 24 (by kernel_rfl)
                  conv at g24 => rhs; whnf
                  have g25 := hI.kept 25 (by kernel_rfl)
                  conv at g25 => rhs; whnf
                  have g26 := hI.kept 26 (by kernel_rfl)
                  conv at g26 => rhs; whnf
                  have g27 := hI.kept 27 (by kernel_rfl)
                  conv at g27 => rhs; whnf
                  have g28 := hI.kept 28 (by kernel_rfl)
                  conv at g28 => rhs; whnf
                  have g29 := hI.kept 29 (by kernel_rfl)
                  conv at g29 => rhs; whnf
                  have g30 := hI.kept 30 (by kernel_rfl)
                  conv at g30 => rhs; whnf
                  have g31 := hI.kept 31 (by kernel_rfl)
                  conv at g31 => rhs; whnf
                  have g32 := hI.kept 32 (by kernel_rfl)
                  conv at g32 => rhs; whnf
                  have g33 := hI.kept 33 (by kernel_rfl)
                  conv at g33 => rhs; whnf
                  have g34 := hI.kept 34 (by kernel_rfl)
                  conv at g34 => rhs; whnf
                  have g35 := hI.kept 35 (by kernel_rfl)
                  conv at g35 => rhs; whnf
                  have g36 := hI.kept 36 (by kernel_rfl)
                  conv at g36 => rhs; whnf
                  have g37 := hI.kept 37 (by kernel_rfl)
                  conv at g37 => rhs; whnf
                  have g38 := hI.kept 38 (by kernel_rfl)
                  conv at g38 => rhs; whnf
                  have g39 := hI.kept 39 (by kernel_rfl)
                  conv at g39 => rhs; whnf
                  have g40 := hI.kept 40 (by kernel_rfl)
                  conv at g40 => rhs; whnf
                  have g65 : act.tmps[65]?.getD undef = undef := hI.kept 65 (by kernel_rfl)
                  have hsz : act.tmps.size = 66 := hI.size.trans (by kernel_rfl)
                  have hd := hI.defers
                  clear hI hall
                  obtain ⟨tt, dd⟩ := act
                  simp only at g0 g1 g2 g3 g4 g5 g6 g7 g10 g11 g12 g13 g14 g15 g16 g17 g18 g19 g20 g21 g22 g23 g24 g25 g26 g27 g28 g29 g30 g31 g32 g33 g34 g35 g36 g37 g38 g39 g40 g41 g65 hsz hd
                  subst hd
                  have hl : tt = #[tt[0]?.getD undef, tt[1]?.getD undef, tt[2]?.getD undef, tt[3]?.getD undef, tt[4]?.getD undef, tt[5]?.getD undef, tt[6]?.getD undef, tt[7]?.getD undef, tt[8]?.getD undef, tt[9]?.getD undef, tt[10]?.getD undef, tt[11]?.getD undef, tt[12]?.getD undef, tt[13]?.getD undef, tt[14]?.getD undef, tt[15]?.getD undef, tt[16]?.getD undef, tt[17]?.getD undef, tt[18]?.getD undef, tt[19]?.getD undef, tt[20]?.getD undef, tt[21]?.getD undef, tt[22]?.getD undef, tt[23]?.getD undef, tt[24]?.getD undef, tt[25]?.getD undef, tt[26]?.getD undef, tt[27]?.getD undef, tt[28]?.getD undef, tt[29]?.getD undef, tt[30]?.getD undef, tt[31]?.getD undef, tt[32]?.getD undef, tt[33]?.getD undef, tt[34]?.getD undef, tt[35]?.getD undef, tt[36]?.getD undef, tt[37]?.getD undef, tt[38]?.getD undef, tt[39]?.getD undef, tt[40]?.getD undef, tt[41]?.getD undef, tt[42]?.getD undef, tt[43]?.getD undef, tt[44]?.getD undef, tt[45]?.getD undef, tt[46]?.getD undef, tt[47]?.getD undef, tt[48]?.getD undef, tt[49]?.getD undef, tt[50]?.getD undef, tt[51]?.getD undef, tt[52]?.getD undef, tt[53]?.getD undef, tt[54]?.getD undef, tt[55]?.getD undef, tt[56]?.getD undef, tt[57]?.getD undef, tt[58]?.getD undef, tt[59]?.getD undef, tt[60]?.getD undef, tt[61]?.getD undef, tt[62]?.getD undef, tt[63]?.getD undef, tt[64]?.getD undef, tt[65]?.getD undef] := (arr_lit hsz).trans rfl
                  rw [g0, g1, g2, g3, g4, g5, g6, g7, g10, g11, g12, g13, g14, g15, g16, g17, g18, g19, g20, g21, g22, g23, g24, g25, g26, g27, g28, g29, g30, g31, g32, g33, g34, g35, g36, g37, g38, g39, g40, g41, g65] at hl
                  clear g0 g1 g2 g3 g4 g5 g6 g7 g10 g11 g12 g13 g14 g15 g16 g17 g18 g19 g20 g21 g22 g23 g24 g25 g26 g27 g28 g29 g30 g31 g32 g33 g34 g35 g36 g37 g38 g39 g40 g41 g65 hsz
                  generalize tt[8]?.getD undef = y8 at hl
                  generalize tt[9]?.getD undef = y9 at hl
                  generalize tt[42]?.getD undef = y42 at hl
                  generalize tt[43]?.getD undef = y43 at hl
                  generalize tt[44]?.getD undef = y44 at hl
                  generalize tt[45]?.getD undef = y45 at hl
                  generalize tt[46]?.getD undef = y46 at hl
                  generalize tt[47]?.getD undef = y47 at hl
                  generalize tt[48]?.getD undef = y48 at hl
                  generalize tt[49]?.getD undef = y49 at hl
                  generalize tt[50]?.getD undef = y50 at hl
                  generalize tt[51]?.getD undef = y51 at hl
                  generalize tt[52]?.getD undef = y52 at hl
                  generalize tt[53]?.getD undef = y53 at hl
                  generalize tt[54]?.getD undef = y54 at hl
                  generalize tt[55]?.getD undef = y55 at hl
                  generalize tt[56]?.getD undef = y56 at hl
                  generalize tt[57]?.getD undef = y57 at hl
                  generalize tt[58]?.getD undef = y58 at hl
                  generalize tt[59]?.getD undef = y59 at hl
                  generalize tt[60]?.getD undef = y60 at hl
                  generalize tt[61]?.getD undef = y61 at hl
                  generalize tt[62]?.getD undef = y62 at hl
                  generalize tt[63]?.getD undef = y63 at hl
                  generalize tt[64]?.getD undef = y64 at hl
                  subst hl
                  have HR : Hid (canon .f32 r = mixV a b x y k) := Lib.hid (by rw [HV.out]; exact hr)
                  obtain ⟨w1, hw1⟩ : ∃ w1, w1 = wr.drewN nn := ⟨_, rfl⟩
                  rw [← hw1]
                  have b1 : Below wr.heap.size wr w1 := by rw [hw1]; exact below_draws (Below.refl _ _) _
                  have HG1 := Lib.hid (HGR.out.below b1)
                  have HB1 : Hid (Below w.heap.size w w1) := Lib.hid (below_of HBW.out HBW.out.size b1)
                  clear b1 hw1 hr hc hc'
                  go_wp2_with fail
                  refine (s_l01Finite r _).mono ?_
                  rintro e w2 ⟨n2, rfl, hw⟩
                  have b1 : Below w1.heap.size w1 w2 := by rw [hw]; exact below_draws (Below.refl _ _) _
                  have HG2 := Lib.hid (HG1.out.below b1)
                  have HB2 : Hid (Below w.heap.size w w2) := Lib.hid (below_of HB1.out HB1.out.size b1)
                  have HFR : Hid (fin .f32 (mixV a b x y k) = fin .f32 r) := Lib.hid (by rw [← HR.out, fin_canon])
                  clear b1 hw
                  cases pf : fin .f32 r
                  · have HN2 : Hid (mixO a b x y = false) := Lib.hid (mixO_a (k := k + 1) (by simp only [alls]; rw [HFR.out, pf, Bool.and_false]) (by omega))
                    clear pf
                    go_wp2
                    go_ret2
                    exact ⟨none, 0, 0, by rw [HN2.out, mixL_no HN2.out]; rfl, .inl (mixL_no HN2.out), HB2.out⟩
                  · have HN : Hid (alls (fun i => fin .f32 (mixV a b x y i)) (k + 1) = true) := Lib.hid (by simp only [alls, HFR.out, pf, HP.out, Bool.and_true])
                    have hown := HG2.out
                    clear pf
                    unfold Gr at hown
                    go_wp2_with (first
                      | (at_builtin; refine wpList_append_own _ rfl _ _ 38 rfl w.heap.size 22 i0 (.float .f32 0) 1 4 Try.underlying38 HI.out HZ0.out HZ1.out HZ2.out rfl (by decide) _ _ _ rfl (hown.alloc _) ⟨_, 0, none⟩ 1 1 [.float .f32 r] rfl rfl ?c1 ?c2 ?c3 ?c4 ?c5 ?_)
                      | fail)
                    case c1 =>
                      intro j u hj
                      match j, hj with
                      | 0, hj => simp at hj; subst hj; simp [Addr.add]
                    case c2 => intro u hu; simp at hu; subst hu; rfl
                    case c3 => have := HL0.out; unfold maxLen; omega
                    case c4 => have := HL0.out; omega
                    case c5 => have := HB2.out.size; simp; omega
                    · intro v' w3 hown' hgrow _
                      obtain ⟨g2, b2⟩ := Gr.next HG2.out HB2.out (Nat.le_refl _) hown' hgrow
                      have HG3 := Lib.hid g2
                      have HB3 := Lib.hid b2
                      have HQ2 : Hid (∀ j, j < k + 1 → canon .f32 ((ys ++ [r]).getD j 0) = mixV a b x y j) := Lib.hid (fun j hj => by
                        rw [getD_snoc _ _ _ (by rw [HL0.out]; exact hj), HL0.out]
                        split
                        · rename_i e; rw [HR.out, e]
                        · exact HQ.out j (by omega))
                      have HL2 : Hid ((ys ++ [r]).length = k + 1) := Lib.hid (by simp [HL0.out])
                      clear g2 b2 hown hown' hgrow
                      go_wp2
                      go_roundw
                      case rel => exact ⟨k + 1, _, by omega, by go_num, HG3, HL2, HN, HQ2, HB3⟩
                      case measure => simp [intOf]; omega
              · have hkk : k = a.length := by omega
                have HY : Hid (mixO a b x y = true) := Lib.hid (mixO_yes HC.out (by rw [← hkk]; exact HP.out))
                have HYS : Hid (ys = mixL a b x y) := Lib.hid (by rw [mixL_yes HY.out, ← hkk]; exact list_exact HL0.out HQ.out (fun j hj => alls_at HP.out j hj))
                obtain ⟨A', cap', b', rfl, ho⟩ := HGR.out.own
                have HO := Lib.hid ho
                clear ho
                go_wp2
                go_ret2
                exact ⟨A', cap', b', by rw [HY.out, ← HYS.out]; rfl, by rw [← HYS.out]; exact HO.out, HBW.out⟩
      · have e1 : ((a.length : Int) != (b.length : Int)) = true := by rw [bne_iff_ne]; omega
        have HN : Hid (mixO a b x y = false) := Lib.hid (mixO_c (by unfold mixC; rw [V1.out, V2.out, decide_eq_false hl]; rfl))
        go_wp2
        go_ret2
        exact ⟨none, 0, 0, by rw [HN.out, mixL_no HN.out]; rfl, .inl (mixL_no HN.out), Bw2.out⟩
end Go.Proofs.Ytpchkedgjikpfaa
