/- Farms: what is valid, how the laws copy and compare them. No statement is proved here. -/
import Derived.Test.YtmadlabnhjhfiaaRose
import Derived.Test.YtmadlabnhjhfiaaInv4
namespace Go.Proofs.Ytmadlabnhjhfiaa
open Go Go.RowKit
/-- a coordinate of a rotor -/
def nearF (x : Nat) : Bool := within x 3351465984 1203982336
def fars (xs : List Nat) : Nat → Bool
  | 0 => true
  | k + 1 => fars xs k && nearF (xs.getD k 0)
theorem fars_no {xs : List Nat} {k n : Nat} (h : fars xs k = false) (hk : k ≤ n) : fars xs n = false := by
  induction n with
  | zero => rw [show k = 0 by omega] at h; exact h
  | succ n ih =>
    by_cases e : k = n + 1
    · rw [← e]; exact h
    · simp only [fars, ih (by omega), Bool.false_and]
theorem fars_at {xs : List Nat} {n : Nat} (h : fars xs n = true) : ∀ j, j < n → nearF (xs.getD j 0) = true := by
  induction n with
  | zero => intro j hj; omega
  | succ n ih =>
    intro j hj
    simp only [fars, Bool.and_eq_true] at h
    by_cases e : j = n
    · rw [e]; exact h.2
    · exact ih h.1 j (by omega)
def twoF (x y : List Nat) : Nat → Bool
  | 0 => true
  | k + 1 => twoF x y k && (nearF (x.getD k 0) && nearF (y.getD k 0))
theorem twoF_eq (x y : List Nat) (n : Nat) : twoF x y n = (fars x n && fars y n) := by
  induction n with
  | zero => rfl
  | succ n ih =>
    simp only [twoF, fars, ih]
    cases fars x n <;> cases fars y n <;> cases nearF (x.getD n 0) <;> simp
theorem twoF_no {x y : List Nat} {k n : Nat} (h : twoF x y k = false) (hk : k ≤ n) : twoF x y n = false := by
  induction n with
  | zero => rw [show k = 0 by omega] at h; exact h
  | succ n ih =>
    by_cases e : k = n + 1
    · rw [← e]; exact h
    · simp only [twoF, ih (by omega), Bool.false_and]
def sizedF (x y : List Nat) : Prop := 1 ≤ x.length ∧ x.length ≤ 12 ∧ y.length = x.length
instance (x y : List Nat) : Decidable (sizedF x y) := by unfold sizedF; infer_instance
/-- what all rotors have in common is valid -/
def frmN (r d s : Nat) : Bool := posi r && (leq32 r 1148846080 && (posi s && within d 0 1056964608))
/-- a valid farm -/
def frmV (x y : List Nat) (r d s : Nat) : Bool := decide (sizedF x y) && (fars x x.length && (fars y y.length && frmN r d s))
theorem frmV_no {x y : List Nat} {r d s : Nat} (h : ¬ sizedF x y) : frmV x y r d s = false := by unfold frmV; rw [decide_eq_false h]; rfl
theorem frmV_yes {x y : List Nat} {r d s : Nat} (h : sizedF x y) : frmV x y r d s = (fars x x.length && (fars y y.length && frmN r d s)) := by unfold frmV; rw [decide_eq_true h]; rfl
theorem frmV_two {x y : List Nat} {r d s : Nat} (h : sizedF x y) (hn : frmN r d s = true) : frmV x y r d s = twoF x y x.length := by rw [frmV_yes h, twoF_eq, h.2.2, hn, Bool.and_true]
theorem frmV_noN {x y : List Nat} {r d s : Nat} (h : frmN r d s = false) : frmV x y r d s = false := by unfold frmV; rw [h]; simp
theorem frmV_sized {x y : List Nat} {r d s : Nat} (h : frmV x y r d s = true) : sizedF x y := by unfold frmV at h; rw [Bool.and_eq_true] at h; exact of_decide_eq_true h.1
theorem frmV_parts {x y : List Nat} {r d s : Nat} (h : frmV x y r d s = true) : fars x x.length = true ∧ fars y y.length = true ∧ frmN r d s = true := by
  unfold frmV at h; simp only [Bool.and_eq_true] at h; exact h.2
theorem BlkL.five {w : World} {B : Nat} {v0 v1 v2 v3 v4 : Value} (h : BlkL w B [v0, v1, v2, v3, v4]) : w.cell? ⟨B, 0, none⟩ = some v0 ∧ w.cell? ⟨B, 1, none⟩ = some v1 ∧ w.cell? ⟨B, 2, none⟩ = some v2 ∧ w.cell? ⟨B, 3, none⟩ = some v3 ∧ w.cell? ⟨B, 4, none⟩ = some v4 :=
  ⟨(h.2 0 _ rfl).1, (h.2 1 _ rfl).1, (h.2 2 _ rfl).1, (h.2 3 _ rfl).1, (h.2 4 _ rfl).1⟩
theorem i_isTooFar (x : Nat) (w : World) :
    Calls Try.prog 166 #[.float .f32 x] w fun e w' => e = .returned (.bool (!nearF x)) ∧ w' = w := by
  go_enter Try.func166, Try.ntmps166
  go_wp2_with fail
  refine (i_isWithin _ _ _ _).mono ?_
  rintro e w' ⟨rfl, rfl⟩
  go_wp2
  go_ret
  exact ⟨rfl, rfl⟩
theorem s_l06Near (x : Nat) (w : World) :
    Calls Try.prog 196 #[.float .f32 x] w fun e w' => e = .returned (.bool (nearF x)) ∧ w' = w := by
  cases h : geq32 x 3351465984
  all_goals
    unfold geq32 at h
    go_enter Try.func196, Try.ntmps196
    go_wp2
    go_ret
    exact ⟨by simp [nearF, within, geq32, leq32, h], rfl⟩
theorem lib_IndexFunc_isTooFar
    (A : Option Addr) (cap : Nat) (xs : List Nat) (w : World) (h : Fl w A xs) (hn : xs.length ≤ 1048576) :
    Calls Try.prog 189 #[.slice A xs.length cap, .func (.func 166) #[] #[]] w fun e w' => ∃ n i, e = .returned (.int .i64 i) ∧ Found (fun x => !nearF x) xs i ∧ w' = w.drewN n := by
  go_enter Try.func189, Try.ntmps189
  go_wp2
  go_loopw [8] (fun i wr => ∃ k n : Nat, k ≤ xs.length ∧ i = .int .i64 k ∧ Hid (NoneTill (fun x => !nearF x) xs k) ∧ wr = w.drewN n) (fun i _ => xs.length - (intOf i).toNat)
  case atStart => exact ⟨0, 0, Nat.zero_le _, rfl, Lib.hid (fun j hj => by omega), rfl⟩
  case round =>
    obtain ⟨k, n, hk, rfl, hr, rfl⟩ := hrel
    by_cases hlt : k < xs.length
    · obtain ⟨b, off, rfl, hb, hc⟩ := h.at_ hlt
      have HB := Lib.hid h; clear h
      obtain ⟨x, hx⟩ : ∃ x, x = xs.getD k 0 := ⟨_, rfl⟩
      rw [← hx] at hc
      have HX := Lib.hid hx; clear hx
      go_wp2_with fail
      refine (i_isTooFar _ _).mono ?_
      rintro e w' ⟨rfl, rfl⟩
      cases hp : !nearF x
      · have HS : Hid (NoneTill (fun x => !nearF x) xs (k + 1)) := Lib.hid (hr.out.step (by show (!nearF (xs.getD k 0)) = false; rw [← HX.out, hp]))
        clear hp
        go_wp2
        go_roundw
        case rel => exact ⟨k + 1, _, by omega, by go_num, HS, rfl⟩
        case measure => simp [intOf]; omega
      · have HS : Hid (Found (fun x => !nearF x) xs k) := Lib.hid (.inr ⟨k, hlt, rfl, by show (!nearF (xs.getD k 0)) = true; rw [← HX.out, hp], hr.out⟩)
        clear hp
        go_wp2
        go_ret
        exact ⟨_, _, rfl, HS.out, rfl⟩
    · have hkk : k = xs.length := by omega
      subst hkk
      have HB := Lib.hid h; clear h
      go_wp2
      go_ret
      exact ⟨_, _, rfl, .inl ⟨rfl, hr.out⟩, rfl⟩
theorem lib_ContainsFunc_isTooFar
    (A : Option Addr) (cap : Nat) (xs : List Nat) (w : World) (h : Fl w A xs) (hn : xs.length ≤ 1048576) :
    Calls Try.prog 144 #[.slice A xs.length cap, .func (.func 166) #[] #[]] w fun e w' => ∃ n r, e = .returned (.bool r) ∧ (∃ i, Found (fun x => !nearF x) xs i ∧ r = decide (0 ≤ i)) ∧ w' = w.drewN n := by
  have H := Lib.hid h; clear h
  go_enter Try.func144, Try.ntmps144
  go_wp2_with fail
  refine (lib_IndexFunc_isTooFar A cap xs _ H.out hn).mono ?_
  rintro e w' ⟨n, i, rfl, hi, rfl⟩
  have HI := Lib.hid hi; clear hi
  go_wp2
  go_ret
  exact ⟨_, _, rfl, ⟨i, HI.out, rfl⟩, rfl⟩
theorem found_fars {xs : List Nat} {i : Int} (h : Found (fun x => !nearF x) xs i) : (decide (0 ≤ i)) = !fars xs xs.length := by
  have hy : ∀ k, (∀ j, j < k → (!nearF (xs.getD j 0)) = false) → fars xs k = true := by
    intro k; induction k with
    | zero => intro _; rfl
    | succ k ih => intro hk; simp only [fars, ih (fun j hj => hk j (by omega)), Bool.true_and]; simpa using hk k (by omega)
  rcases h with ⟨rfl, h⟩ | ⟨k, hk, rfl, hp, -⟩
  · rw [hy _ h]; rfl
  · have : fars xs (k + 1) = false := by simp only [fars]; rw [show nearF (xs.getD k 0) = false by simpa using hp, Bool.and_false]
    rw [fars_no this (by omega)]; simp
theorem i_hasTooFar (A : Option Addr) (cap : Nat) (xs : List Nat) (w : World) (h : Fl w A xs) (hn : xs.length ≤ 1048576) :
    Calls Try.prog 144 #[.slice A xs.length cap, .func (.func 166) #[] #[]] w fun e w' => ∃ n, e = .returned (.bool (!fars xs xs.length)) ∧ w' = w.drewN n :=
  (lib_ContainsFunc_isTooFar A cap xs w h hn).mono fun _ _ ⟨n, _, he, ⟨_, hi, hr⟩, hw⟩ => ⟨n, by rw [he, hr, found_fars hi], hw⟩
theorem l_szFarm_yes (A L : Option Addr) (na ca nl cl fr fd fs : Nat) (left : Int) (w : World) (h : (na : Int) + nl ≤ left) (hl : left ≤ 1048576) :
    Calls Try.prog 30 #[.agg #[.slice A na ca, .slice L nl cl, .float .f32 fr, .float .f32 fd, .float .f32 fs], .int .i64 left] w fun e w' => e = .returned (.int .i64 (left - na - nl)) ∧ Below w.heap.size w w' := by
  go_enter Try.func30, Try.ntmps30
  go_wp2_with fail
  refine (l_szF32_yes _ _ _ _ _ (by omega) (by omega)).mono ?_
  rintro e w' ⟨rfl, rfl⟩
  go_wp2_with fail
  refine (l_szF32_yes _ _ _ _ _ (by omega) (by omega)).mono ?_
  rintro e w' ⟨rfl, rfl⟩
  go_wp2
  go_ret
  exact ⟨rfl, (Below.refl _ _).alloc (Nat.le_refl _) _⟩
theorem l_szFarm_no (A L : Option Addr) (na ca nl cl fr fd fs : Nat) (left : Int) (w : World) (h : left < (na : Int) + nl) (h0 : 0 ≤ left) (hl : left ≤ 1048576)
    (hna : na ≤ 9223372036854775807) (hnl : nl ≤ 9223372036854775807) :
    Calls Try.prog 30 #[.agg #[.slice A na ca, .slice L nl cl, .float .f32 fr, .float .f32 fd, .float .f32 fs], .int .i64 left] w fun e w' => e = .returned (.int .i64 (-1)) ∧ Below w.heap.size w w' := by
  by_cases h1 : (na : Int) ≤ left
  · go_enter Try.func30, Try.ntmps30
    go_wp2_with fail
    refine (l_szF32_yes _ _ _ _ _ h1 hl).mono ?_
    rintro e w' ⟨rfl, rfl⟩
    go_wp2_with fail
    refine (l_szF32_no _ _ _ _ _ (by omega) (by omega) (by omega) hnl).mono ?_
    rintro e w' ⟨rfl, rfl⟩
    go_wp2
    go_ret
    exact ⟨rfl, (Below.refl _ _).alloc (Nat.le_refl _) _⟩
  · go_enter Try.func30, Try.ntmps30
    go_wp2_with fail
    refine (l_szF32_no _ _ _ _ _ (by omega) h0 hl hna).mono ?_
    rintro e w' ⟨rfl, rfl⟩
    go_wp2
    go_ret
    exact ⟨rfl, (Below.refl _ _).alloc (Nat.le_refl _) _⟩
set_option maxHeartbeats 8000000 in
theorem l_toFarm (X Y : Option Addr) (cx cy : Nat) (fx fy : List Nat) (fr fd fs : Nat) (w : World) (h : Rs w X Y fx fy) (hn : FewS fx fy) :
    Calls Try.prog 32 #[.agg #[.slice X fx.length cx, .slice Y fy.length cy, .float .f32 fr, .float .f32 fd, .float .f32 fs]] w fun e w' => ∃ b1 b2, e = .returned (.agg #[.slice (some ⟨b1, 0, none⟩) fx.length fx.length, .slice (some ⟨b2, 0, none⟩) fy.length fy.length, .float .f32 fr, .float .f32 fd, .float .f32 fs]) ∧ OwnS w' w.heap.size b1 b2 fx fy ∧ Below w.heap.size w w' := by
  unfold FewS at hn
  obtain ⟨hA, hL⟩ := h
  have HA := Lib.hid hA; clear hA
  have HL := Lib.hid hL; clear hL
  go_enter Try.func32, Try.ntmps32
  go_wp2_with fail
  refine (l_toF32N X cx fx _ (HA.out.below ((((Below.refl _ _).alloc (Nat.le_refl _) _).alloc (by simp) _).alloc (by simp <;> omega) _)) (by omega)).mono ?_
  rintro e w1 ⟨rfl, h1, b1⟩
  have K0 : Hid (BlkL w1 w.heap.size [.slice X fx.length cx, .slice Y fy.length cy, .float .f32 fr, .float .f32 fd, .float .f32 fs]) := Lib.hid (BlkL.below (((blkL_at w #[.slice X fx.length cx, .slice Y fy.length cy, .float .f32 fr, .float .f32 fd, .float .f32 fs] _ rfl).alloc _).alloc _) b1)
  have K1 : Hid (BlkL w1 (w.heap.size + 1) [_, _, _, _, _]) := Lib.hid (BlkL.below (w := Go.World.alloc _ _) ((blkL_at (w.alloc _) #[_, _, _, _, _] _ (by simp)).alloc _) b1)
  have K2 : Hid (BlkL w1 (w.heap.size + 1 + 1) [_, _, _, _, _]) := Lib.hid (BlkL.below (w := Go.World.alloc _ _) (blkL_at ((w.alloc _).alloc _) #[_, _, _, _, _] _ (by simp)) b1)
  have hz : w.heap.size + 3 < w1.heap.size := by have := h1.1; simp at this; omega
  have B1 : Hid (Below w.heap.size w w1) := Lib.hid (((((Below.refl _ _).alloc (Nat.le_refl _) _).alloc (by simp) _).alloc (by simp <;> omega) _).trans (b1.mono (by simp <;> omega)))
  have H1 : Hid (Own w1 (w.heap.size + 1 + 1 + 1) fx) := Lib.hid (by simpa using h1)
  clear h1 b1
  have k0 := (K0.out.2 1 _ rfl).1
  have k1 := (K2.out.2 0 _ rfl).1
  have k2 := (K2.out.2 0 _ rfl).2
  go_wp2_with fail
  clear k0 k1 k2
  refine (l_toF32N Y cy fy _ (HL.out.below (B1.out.setCell (p := ⟨w.heap.size + 1 + 1, 0, none⟩) (by show w.heap.size ≤ w.heap.size + 1 + 1; omega) _)) (by omega)).mono ?_
  rintro e w2 ⟨rfl, h2, b2⟩
  have hz2 : w1.heap.size < w2.heap.size := by have := h2.1; simp at this; omega
  have K0' : Hid (BlkL w2 w.heap.size [.slice X fx.length cx, .slice Y fy.length cy, .float .f32 fr, .float .f32 fd, .float .f32 fs]) := Lib.hid ((K0.out.other (p := ⟨w.heap.size + 1 + 1, 0, none⟩) (by show w.heap.size + 1 + 1 ≠ _; omega) _).below b2)
  have K1' : Hid (BlkL w2 (w.heap.size + 1) [_, _, _, _, _]) := Lib.hid ((K1.out.other (p := ⟨w.heap.size + 1 + 1, 0, none⟩) (by show w.heap.size + 1 + 1 ≠ _; omega) _).below b2)
  have K2' : Hid (BlkL w2 (w.heap.size + 1 + 1) [.slice (some ⟨w.heap.size + 1 + 1 + 1, 0, none⟩) fx.length fx.length, _, _, _, _]) := Lib.hid ((K2.out.set (i := 0) (by simp) _).below b2)
  have B2 : Hid (Below w.heap.size w w2) := Lib.hid ((B1.out.setCell (p := ⟨w.heap.size + 1 + 1, 0, none⟩) (by show w.heap.size ≤ w.heap.size + 1 + 1; omega) _).trans (b2.mono (by simp <;> omega)))
  have H1' : Hid (Own w2 (w.heap.size + 1 + 1 + 1) fx) := Lib.hid (Own.below (w := w1.setCell ⟨w.heap.size + 1 + 1, 0, none⟩ _) (H1.out.setCell (by show w.heap.size + 1 + 1 ≠ _; omega) _) b2)
  have H2 : Hid (Own w2 w1.heap.size fy) := Lib.hid (by simpa using h2)
  clear h2 b2 H1 K0 K1 K2
  have a2 := (K0'.out.2 2 _ rfl).1
  have a3 := (K0'.out.2 3 _ rfl).1
  have a4 := (K0'.out.2 4 _ rfl).1
  have p0 := (K1'.out.2 0 _ rfl).1
  have pf0 := (K1'.out.2 0 _ rfl).2
  have p1 := (K1'.out.2 1 _ rfl).1
  have pf1 := (K1'.out.2 1 _ rfl).2
  have p2 := (K1'.out.2 2 _ rfl).1
  have pf2 := (K1'.out.2 2 _ rfl).2
  have p3 := (K1'.out.2 3 _ rfl).1
  have pf3 := (K1'.out.2 3 _ rfl).2
  have p4 := (K1'.out.2 4 _ rfl).1
  have pf4 := (K1'.out.2 4 _ rfl).2
  have q0 := (K2'.out.2 0 _ rfl).1
  have q1 := (K2'.out.2 1 _ rfl).1
  have qf1 := (K2'.out.2 1 _ rfl).2
  have q2 := (K2'.out.2 2 _ rfl).1
  have qf2 := (K2'.out.2 2 _ rfl).2
  have q3 := (K2'.out.2 3 _ rfl).1
  have qf3 := (K2'.out.2 3 _ rfl).2
  have q4 := (K2'.out.2 4 _ rfl).1
  have qf4 := (K2'.out.2 4 _ rfl).2
  go_wp2
  refine bodyPost_ret (v := .agg #[.slice (some ⟨w.heap.size + 1 + 1 + 1, 0, none⟩) fx.length fx.length, .slice (some ⟨w1.heap.size, 0, none⟩) fy.length fy.length, .float .f32 fr, .float .f32 fd, .float .f32 fs]) ?_ rfl ?_
  · simp [results, Try.results32, go_sem, p0, p1, p2, p3, p4]
  · refine ⟨_, _, rfl, ⟨by omega, by omega, ?_, ?_⟩, ?_⟩
    · exact (((((((((H1'.out).setCell (by show w.heap.size + 1 + 1 ≠ _; omega) _).setCell (by show w.heap.size + 1 + 1 ≠ _; omega) _).setCell (by show w.heap.size + 1 + 1 ≠ _; omega) _).setCell (by show w.heap.size + 1 + 1 ≠ _; omega) _).setCell (by show w.heap.size + 1 ≠ _; omega) _).setCell (by show w.heap.size + 1 ≠ _; omega) _).setCell (by show w.heap.size + 1 ≠ _; omega) _).setCell (by show w.heap.size + 1 ≠ _; omega) _).setCell (by show w.heap.size + 1 ≠ _; omega) _
    · exact (((((((((H2.out).setCell (by show w.heap.size + 1 + 1 ≠ _; omega) _).setCell (by show w.heap.size + 1 + 1 ≠ _; omega) _).setCell (by show w.heap.size + 1 + 1 ≠ _; omega) _).setCell (by show w.heap.size + 1 + 1 ≠ _; omega) _).setCell (by show w.heap.size + 1 ≠ _; omega) _).setCell (by show w.heap.size + 1 ≠ _; omega) _).setCell (by show w.heap.size + 1 ≠ _; omega) _).setCell (by show w.heap.size + 1 ≠ _; omega) _).setCell (by show w.heap.size + 1 ≠ _; omega) _
    · exact (((((((((B2.out).setCell (by show w.heap.size ≤ w.heap.size + 1 + 1; omega) _).setCell (by show w.heap.size ≤ w.heap.size + 1 + 1; omega) _).setCell (by show w.heap.size ≤ w.heap.size + 1 + 1; omega) _).setCell (by show w.heap.size ≤ w.heap.size + 1 + 1; omega) _).setCell (by show w.heap.size ≤ w.heap.size + 1; omega) _).setCell (by show w.heap.size ≤ w.heap.size + 1; omega) _).setCell (by show w.heap.size ≤ w.heap.size + 1; omega) _).setCell (by show w.heap.size ≤ w.heap.size + 1; omega) _).setCell (by show w.heap.size ≤ w.heap.size + 1; omega) _
set_option maxHeartbeats 4000000 in
theorem l_eqFarm (X Y X' Y' : Option Addr) (cx cy cx' cy' : Nat) (fx fy : List Nat) (fr fd fs fr' fd' fs' : Nat) (w : World) (h : Rs w X Y fx fy) (h' : Rs w X' Y' fx fy) (hn : FewS fx fy) (hr : canon .f32 fr = canon .f32 fr') (hd : canon .f32 fd = canon .f32 fd') (hs : canon .f32 fs = canon .f32 fs') :
    Calls Try.prog 34 #[.agg #[.slice X fx.length cx, .slice Y fy.length cy, .float .f32 fr, .float .f32 fd, .float .f32 fs], .agg #[.slice X' fx.length cx', .slice Y' fy.length cy', .float .f32 fr', .float .f32 fd', .float .f32 fs']] w fun e w' => e = .returned (.bool true) ∧ Below w.heap.size w w' := by
  unfold FewS at hn
  have HP := Lib.hid h; clear h
  have HP' := Lib.hid h'; clear h'
  have R := Lib.hid hr; have D := Lib.hid hd; have S := Lib.hid hs
  clear hr hd hs
  obtain ⟨w0, hw0⟩ : ∃ x, x = (w.alloc (.cells #[.slice X fx.length cx, .slice Y fy.length cy, .float .f32 fr, .float .f32 fd, .float .f32 fs] 50)).alloc (.cells #[.slice X' fx.length cx', .slice Y' fy.length cy', .float .f32 fr', .float .f32 fd', .float .f32 fs'] 50) := ⟨_, rfl⟩
  have B0 : Hid (Below w.heap.size w w0) := Lib.hid (by rw [hw0]; exact ((Below.refl _ _).alloc (Nat.le_refl _) _).alloc (by simp) _)
  have K0 : Hid (BlkL w0 w.heap.size [.slice X fx.length cx, .slice Y fy.length cy, .float .f32 fr, .float .f32 fd, .float .f32 fs]) := Lib.hid (by rw [hw0]; exact (blkL_at w #[.slice X fx.length cx, .slice Y fy.length cy, .float .f32 fr, .float .f32 fd, .float .f32 fs] _ rfl).alloc _)
  have K1 : Hid (BlkL w0 (w.heap.size + 1) [.slice X' fx.length cx', .slice Y' fy.length cy', .float .f32 fr', .float .f32 fd', .float .f32 fs']) := Lib.hid (by rw [hw0]; exact blkL_at (w.alloc _) #[.slice X' fx.length cx', .slice Y' fy.length cy', .float .f32 fr', .float .f32 fd', .float .f32 fs'] _ (by simp))
  go_enter Try.func34, Try.ntmps34
  go_wp2_with fail
  rw [← hw0]
  clear hw0
  obtain ⟨k0, k1, k2, k3, k4⟩ := K0.out.five
  obtain ⟨l0, l1, l2, l3, l4⟩ := K1.out.five
  go_wp2_with fail
  refine (l_eqF32 X X' cx cx' fx _ (HP.out.1.below B0.out) (HP'.out.1.below B0.out) (by omega)).mono ?_
  rintro e w' ⟨n1, rfl, rfl⟩
  go_wp2_with fail
  refine (l_eqF32 Y Y' cy cy' fy _ (HP.out.2.below (below_draws B0.out _)) (HP'.out.2.below (below_draws B0.out _)) (by omega)).mono ?_
  rintro e w' ⟨n2, rfl, rfl⟩
  go_wp2_with fail
  refine (sameFloat_yes _ _ _ (by rw [canon_wideV, canon_wideV, R.out])).mono ?_
  rintro e w' ⟨n3, rfl, rfl⟩
  go_wp2_with fail
  refine (sameFloat_yes _ _ _ (by rw [canon_wideV, canon_wideV, D.out])).mono ?_
  rintro e w' ⟨n4, rfl, rfl⟩
  go_wp2_with fail
  refine (sameFloat_yes _ _ _ (by rw [canon_wideV, canon_wideV, S.out])).mono ?_
  rintro e w' ⟨n5, rfl, rfl⟩
  go_wp2
  go_ret
  exact ⟨rfl, by repeat (first | exact B0.out | refine below_draws ?_ _)⟩
end Go.Proofs.Ytmadlabnhjhfiaa
