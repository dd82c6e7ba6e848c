/- Profiles: what is valid, how they are copied and compared. No statement is proved here. -/
import Derived.Test.YtpmjikchlofebaaSlice
import Derived.Lib.SmallJoins
namespace Go.Proofs.Ytpmjikchlofebaa
open Go Go.RowKit

def leq32 (a b : Nat) : Bool := FloatKind.f32.format.order a b == some .lt || FloatKind.f32.format.order a b == some .eq
def geq32 (a b : Nat) : Bool := FloatKind.f32.format.order a b == some .gt || FloatKind.f32.format.order a b == some .eq
def lss32 (a b : Nat) : Bool := FloatKind.f32.format.order a b == some .lt
def gtr32 (a b : Nat) : Bool := FloatKind.f32.format.order a b == some .gt

/-- x lies between two numbers -/
def within (x a b : Nat) : Bool := geq32 x a && leq32 x b
def amount (x : Nat) : Bool := fin .f32 x && geq32 x 0

theorem order_some {k : FloatKind} {a b : Nat} (ha : isn k a = false) (hb : isn k b = false) : (k.format.order a b).isSome = true := by
  unfold isn FloatKind.decode at ha hb
  unfold Ieee.Format.order
  cases h1 : k.format.read a <;> cases h2 : k.format.read b <;> rw [h1] at ha <;> rw [h2] at hb <;> simp_all [Ieee.Datum.order, Ieee.Datum.isNaN] <;>
    (rename_i s t; cases s <;> cases t <;> rfl)

theorem isn_of_fin {k : FloatKind} {b : Nat} (h : fin k b = true) : isn k b = false := by
  cases hn : isn k b
  · rfl
  · rw [fin_of_nan hn] at h; cases h

theorem lss_not_geq {a b : Nat} (ha : isn .f32 a = false) (hb : isn .f32 b = false) : lss32 a b = !geq32 a b := by
  have h := order_some ha hb
  unfold lss32 geq32
  cases ho : FloatKind.f32.format.order a b with
  | none => rw [ho] at h; cases h
  | some o => cases o <;> rfl

/-- the k-th angle is as it must be -/
def angStep (xs : List Nat) (k : Nat) : Bool := within (xs.getD k 0) 3204448256 1056964608 && (k == 0 || !leq32 (xs.getD k 0) (xs.getD (k - 1) 0))
def angs (xs : List Nat) : Nat → Bool
  | 0 => true
  | k + 1 => angs xs k && angStep xs k
def fins (xs : List Nat) : Nat → Bool
  | 0 => true
  | k + 1 => fins xs k && fin .f32 (xs.getD k 0)
def amts (xs : List Nat) : Nat → Bool
  | 0 => true
  | k + 1 => amts xs k && amount (xs.getD k 0)
def oks (a l d : List Nat) : Nat → Bool
  | 0 => true
  | k + 1 => oks a l d k && (angStep a k && (fin .f32 (l.getD k 0) && amount (d.getD k 0)))

theorem oks_eq (a l d : List Nat) (n : Nat) : oks a l d n = (angs a n && (fins l n && amts d n)) := by
  induction n with
  | zero => rfl
  | succ n ih =>
    simp only [oks, angs, fins, amts, ih]
    cases angs a n <;> cases fins l n <;> cases amts d n <;> cases angStep a n <;> cases fin .f32 (l.getD n 0) <;> simp

theorem angs_no {xs : List Nat} {k n : Nat} (h : angs xs k = false) (hk : k ≤ n) : angs xs n = false := by
  induction n with
  | zero => rw [show k = 0 by omega] at h; exact h
  | succ n ih =>
    by_cases e : k = n + 1
    · rw [← e]; exact h
    · simp only [angs, ih (by omega), Bool.false_and]
theorem fins_no {xs : List Nat} {k n : Nat} (h : fins xs k = false) (hk : k ≤ n) : fins xs n = false := by
  induction n with
  | zero => rw [show k = 0 by omega] at h; exact h
  | succ n ih =>
    by_cases e : k = n + 1
    · rw [← e]; exact h
    · simp only [fins, ih (by omega), Bool.false_and]
theorem amts_no {xs : List Nat} {k n : Nat} (h : amts xs k = false) (hk : k ≤ n) : amts xs n = false := by
  induction n with
  | zero => rw [show k = 0 by omega] at h; exact h
  | succ n ih =>
    by_cases e : k = n + 1
    · rw [← e]; exact h
    · simp only [amts, ih (by omega), Bool.false_and]
theorem oks_no {a l d : List Nat} {k n : Nat} (h : oks a l d k = false) (hk : k ≤ n) : oks a l d n = false := by
  induction n with
  | zero => rw [show k = 0 by omega] at h; exact h
  | succ n ih =>
    by_cases e : k = n + 1
    · rw [← e]; exact h
    · simp only [oks, ih (by omega), Bool.false_and]

/-- as many knots as there may be, in all three lists -/
def sized (a l d : List Nat) : Prop := 2 ≤ a.length ∧ a.length ≤ 24 ∧ l.length = a.length ∧ d.length = a.length
instance (a l d : List Nat) : Decidable (sized a l d) := by unfold sized; infer_instance
def validP (a l d : List Nat) : Bool := decide (sized a l d) && oks a l d a.length
/-- a profile in memory: the values of its three lists -/
def Pf (w : World) (A L D : Option Addr) (a l d : List Nat) : Prop := Fl w A a ∧ Fl w L l ∧ Fl w D d
theorem Pf.below {w w' : World} {A L D : Option Addr} {a l d : List Nat} (h : Pf w A L D a l d) (hb : Below w.heap.size w w') : Pf w' A L D a l d :=
  ⟨h.1.below hb, h.2.1.below hb, h.2.2.below hb⟩
/-- few enough to be looked at -/
def Few (a l d : List Nat) : Prop := a.length + l.length + d.length ≤ 1048576

/-- old cells read as before -/
theorem bcell {W w1 : World} (hb : Below W.heap.size W w1) : (∀ b o, b < W.heap.size → w1.cell? ⟨b, o, none⟩ = W.cell? ⟨b, o, none⟩) ∧ (∀ b o, b < W.heap.size → w1.frozen? ⟨b, o, none⟩ = W.frozen? ⟨b, o, none⟩) :=
  ⟨fun b o h => hb.cell (p := ⟨b, o, none⟩) h, fun b o h => hb.frozen (p := ⟨b, o, none⟩) h⟩

/-- a block of the call's own that holds these numbers -/
def Own (w : World) (B : Nat) (xs : List Nat) : Prop :=
  B < w.heap.size ∧ ∀ j, j < xs.length → w.cell? ⟨B, j, none⟩ = some (.float .f32 (xs.getD j 0)) ∧ w.frozen? ⟨B, j, none⟩ = false
theorem Own.of_new {w wr : World} {B k : Nat} {xs : List Nat} (h : FlNew w wr B xs.length k xs) (hk : xs.length ≤ k) : Own wr B xs := by
  obtain ⟨h1, h2, h3, h4⟩ := h
  exact ⟨h3, fun j hj => ⟨by rw [(h4 j hj).1, if_pos (by omega)], (h4 j hj).2⟩⟩
theorem Own.fl {w : World} {B : Nat} {xs : List Nat} (h : Own w B xs) : Fl w (some ⟨B, 0, none⟩) xs :=
  .inr ⟨B, 0, rfl, h.1, fun k hk => by rw [Nat.zero_add]; exact (h.2 k hk).1⟩
theorem Own.below {w w' : World} {B : Nat} {xs : List Nat} (h : Own w B xs) (hb : Below w.heap.size w w') : Own w' B xs :=
  ⟨Nat.lt_of_lt_of_le h.1 hb.size, fun j hj => ⟨by rw [hb.cell (p := ⟨B, j, none⟩) h.1]; exact (h.2 j hj).1, by rw [hb.frozen (p := ⟨B, j, none⟩) h.1]; exact (h.2 j hj).2⟩⟩
theorem Own.setCell {w : World} {B : Nat} {xs : List Nat} (h : Own w B xs) {p : Addr} (hp : p.block ≠ B) (v : Value) : Own (w.setCell p v) B xs :=
  ⟨by simpa [World.setCell] using h.1, fun j hj => ⟨by rw [World.cell?_setCell_other (h := by intro hh; exact hp (by rw [hh]))]; exact (h.2 j hj).1, by rw [World.frozen?_setCell]; exact (h.2 j hj).2⟩⟩
/-- the same of a profile: three blocks -/
def OwnP (w : World) (B b1 b2 b3 : Nat) (a l d : List Nat) : Prop := B ≤ b1 ∧ b1 < b2 ∧ b2 < b3 ∧ Own w b1 a ∧ Own w b2 l ∧ Own w b3 d
theorem OwnP.pf {w : World} {B b1 b2 b3 : Nat} {a l d : List Nat} (h : OwnP w B b1 b2 b3 a l d) : Pf w (some ⟨b1, 0, none⟩) (some ⟨b2, 0, none⟩) (some ⟨b3, 0, none⟩) a l d :=
  ⟨h.2.2.2.1.fl, h.2.2.2.2.1.fl, h.2.2.2.2.2.fl⟩
theorem OwnP.below {w w' : World} {B b1 b2 b3 : Nat} {a l d : List Nat} (h : OwnP w B b1 b2 b3 a l d) (hb : Below w.heap.size w w') : OwnP w' B b1 b2 b3 a l d :=
  ⟨h.1, h.2.1, h.2.2.1, h.2.2.2.1.below hb, h.2.2.2.2.1.below hb, h.2.2.2.2.2.below hb⟩
theorem OwnP.draws {w : World} {B b1 b2 b3 : Nat} {a l d : List Nat} (h : OwnP w B b1 b2 b3 a l d) (n : Nat) : OwnP (w.drewN n) B b1 b2 b3 a l d := h

/-- a block of three cells -/
def Blk3 (w : World) (B : Nat) (v0 v1 v2 : Value) : Prop :=
  B < w.heap.size ∧ (w.cell? ⟨B, 0, none⟩ = some v0 ∧ w.cell? ⟨B, 1, none⟩ = some v1 ∧ w.cell? ⟨B, 2, none⟩ = some v2) ∧
    (w.frozen? ⟨B, 0, none⟩ = false ∧ w.frozen? ⟨B, 1, none⟩ = false ∧ w.frozen? ⟨B, 2, none⟩ = false)
theorem blk3_new (w : World) (v0 v1 v2 : Value) (t : TypeId) : Blk3 (w.alloc (.cells #[v0, v1, v2] t)) w.heap.size v0 v1 v2 := by
  refine ⟨by simp, ⟨?_, ?_, ?_⟩, ?_, ?_, ?_⟩
  all_goals first | (rw [World.cell?_alloc_at (w := w) (hn := rfl)]; rfl) | (rw [World.frozen?_alloc_at (w := w) (hn := rfl)])
theorem blk3_at (w : World) (v0 v1 v2 : Value) (t : TypeId) {n : Nat} (hn : n = w.heap.size) : Blk3 (w.alloc (.cells #[v0, v1, v2] t)) n v0 v1 v2 := by
  subst hn; exact blk3_new w v0 v1 v2 t
theorem Blk3.below {w w' : World} {B : Nat} {v0 v1 v2 : Value} (h : Blk3 w B v0 v1 v2) (hb : Below w.heap.size w w') : Blk3 w' B v0 v1 v2 := by
  obtain ⟨h0, ⟨h1, h2, h3⟩, h4, h5, h6⟩ := h
  refine ⟨Nat.lt_of_lt_of_le h0 hb.size, ⟨?_, ?_, ?_⟩, ?_, ?_, ?_⟩
  · rw [hb.cell (p := ⟨B, 0, none⟩) h0, h1]
  · rw [hb.cell (p := ⟨B, 1, none⟩) h0, h2]
  · rw [hb.cell (p := ⟨B, 2, none⟩) h0, h3]
  · rw [hb.frozen (p := ⟨B, 0, none⟩) h0, h4]
  · rw [hb.frozen (p := ⟨B, 1, none⟩) h0, h5]
  · rw [hb.frozen (p := ⟨B, 2, none⟩) h0, h6]
theorem Blk3.alloc {w : World} {B : Nat} {v0 v1 v2 : Value} (h : Blk3 w B v0 v1 v2) (o : Obj) : Blk3 (w.alloc o) B v0 v1 v2 := h.below ((Below.refl _ _).alloc (Nat.le_refl _) _)
theorem Blk3.other {w : World} {B : Nat} {v0 v1 v2 : Value} (h : Blk3 w B v0 v1 v2) {p : Addr} (hp : p.block ≠ B) (v : Value) : Blk3 (w.setCell p v) B v0 v1 v2 := by
  obtain ⟨h0, ⟨h1, h2, h3⟩, h4, h5, h6⟩ := h
  refine ⟨by simpa [World.setCell] using h0, ⟨?_, ?_, ?_⟩, ?_, ?_, ?_⟩
  · rw [World.cell?_setCell_other (h := by intro hh; exact hp (by rw [hh])), h1]
  · rw [World.cell?_setCell_other (h := by intro hh; exact hp (by rw [hh])), h2]
  · rw [World.cell?_setCell_other (h := by intro hh; exact hp (by rw [hh])), h3]
  · rw [World.frozen?_setCell, h4]
  · rw [World.frozen?_setCell, h5]
  · rw [World.frozen?_setCell, h6]
theorem Blk3.set0 {w : World} {B : Nat} {v0 v1 v2 : Value} (h : Blk3 w B v0 v1 v2) (v : Value) : Blk3 (w.setCell ⟨B, 0, none⟩ v) B v v1 v2 := by
  obtain ⟨h0, ⟨h1, h2, h3⟩, h4, h5, h6⟩ := h
  refine ⟨by simpa [World.setCell] using h0, ⟨?_, ?_, ?_⟩, ?_, ?_, ?_⟩
  · rw [World.cell?_setCell_same (h := h1)]
  · rw [World.cell?_setCell_other (h := by simp), h2]
  · rw [World.cell?_setCell_other (h := by simp), h3]
  · rw [World.frozen?_setCell, h4]
  · rw [World.frozen?_setCell, h5]
  · rw [World.frozen?_setCell, h6]
theorem Blk3.set1 {w : World} {B : Nat} {v0 v1 v2 : Value} (h : Blk3 w B v0 v1 v2) (v : Value) : Blk3 (w.setCell ⟨B, 1, none⟩ v) B v0 v v2 := by
  obtain ⟨h0, ⟨h1, h2, h3⟩, h4, h5, h6⟩ := h
  refine ⟨by simpa [World.setCell] using h0, ⟨?_, ?_, ?_⟩, ?_, ?_, ?_⟩
  · rw [World.cell?_setCell_other (h := by simp), h1]
  · rw [World.cell?_setCell_same (h := h2)]
  · rw [World.cell?_setCell_other (h := by simp), h3]
  · rw [World.frozen?_setCell, h4]
  · rw [World.frozen?_setCell, h5]
  · rw [World.frozen?_setCell, h6]
theorem Blk3.set2 {w : World} {B : Nat} {v0 v1 v2 : Value} (h : Blk3 w B v0 v1 v2) (v : Value) : Blk3 (w.setCell ⟨B, 2, none⟩ v) B v0 v1 v := by
  obtain ⟨h0, ⟨h1, h2, h3⟩, h4, h5, h6⟩ := h
  refine ⟨by simpa [World.setCell] using h0, ⟨?_, ?_, ?_⟩, ?_, ?_, ?_⟩
  · rw [World.cell?_setCell_other (h := by simp), h1]
  · rw [World.cell?_setCell_other (h := by simp), h2]
  · rw [World.cell?_setCell_same (h := h3)]
  · rw [World.frozen?_setCell, h4]
  · rw [World.frozen?_setCell, h5]
  · rw [World.frozen?_setCell, h6]

theorem below_of {B : Nat} {a w w' : World} (h : Below B a w) (hB : B ≤ w.heap.size) (h' : Below w.heap.size w w') : Below B a w' := h.trans (h'.mono hB)
theorem l_szF32_yes (A : Option Addr) (n cap : Nat) (left : Int) (w : World) (h : (n : Int) ≤ left) (hl : left ≤ 1048576) :
    Calls Try.prog 85 #[.slice A n cap, .int .i64 left] w fun e w' => e = .returned (.int .i64 (left - n)) ∧ w' = w := by
  go_enter Try.func85, Try.ntmps85
  go_wp2
  go_ret
  exact ⟨rfl, rfl⟩
theorem l_szF32_no (A : Option Addr) (n cap : Nat) (left : Int) (w : World) (h : left < (n : Int)) (h0 : 0 ≤ left) (hl : left ≤ 1048576) (hn : n ≤ 9223372036854775807) :
    Calls Try.prog 85 #[.slice A n cap, .int .i64 left] w fun e w' => e = .returned (.int .i64 (-1)) ∧ w' = w := by
  go_enter Try.func85, Try.ntmps85
  go_wp2
  go_ret
  exact ⟨rfl, rfl⟩
theorem l_toF32N (A : Option Addr) (cap : Nat) (xs : List Nat) (w : World) (h : Fl w A xs) (hn : xs.length ≤ 1048576) :
    Calls Try.prog 15 #[.slice A xs.length cap] w fun e w' => e = .returned (.slice (some ⟨w.heap.size, 0, none⟩) xs.length xs.length) ∧ Own w' w.heap.size xs ∧ Below w.heap.size w w' := by
  have hmk := make_f32 xs.length w hn
  go_enter Try.func15, Try.ntmps15
  go_wp2
  go_loopw [4] (fun i wr => ∃ k : Nat, k ≤ xs.length ∧ i = .int .i64 k ∧ FlNew w wr w.heap.size xs.length k xs) (fun i _ => xs.length - (intOf i).toNat)
  case atStart => exact ⟨0, Nat.zero_le _, rfl, FlNew.start ..⟩
  case round =>
    obtain ⟨k, hk, rfl, hnew⟩ := hrel
    clear hmk
    by_cases hlt : k < xs.length
    · obtain ⟨b, off, rfl, hb, hc⟩ := h.at_ hlt
      have hc1 := hnew.1.cell (p := ⟨b, off + k, none⟩) hb
      rw [hc] at hc1
      obtain ⟨hc2, hc3⟩ := hnew.2.2.2 k hlt
      rw [if_neg (by omega)] at hc2
      have hst := hnew.step hlt
      generalize xs.getD k 0 = x at hc1 hst
      have HS := Lib.hid hst; clear hst
      have HN := Lib.hid hnew; clear hnew hc
      have HF := Lib.hid h; clear h
      go_wp2
      go_roundw
      case rel => exact ⟨k + 1, by omega, by go_num, HS.out⟩
      case measure => simp [intOf]; omega
    · have HN := Lib.hid hnew; clear hnew
      go_wp2
      go_ret
      exact ⟨rfl, Own.of_new HN.out (by omega), HN.out.1⟩
theorem i_isWithin (x a b : Nat) (w : World) :
    Calls Try.prog 122 #[.float .f32 x, .float .f32 a, .float .f32 b] w fun e w' => e = .returned (.bool (within x a b)) ∧ w' = w := by
  cases h : (FloatKind.f32.format.order x a == some .gt || FloatKind.f32.format.order x a == some .eq)
  all_goals
    go_enter Try.func122, Try.ntmps122
    go_wp2
    go_ret
    exact ⟨by simp [within, geq32, leq32, h], rfl⟩
theorem i_notFinite (x : Nat) (w : World) :
    Calls Try.prog 64 #[.float .f32 x] w fun e w' => ∃ n, e = .returned (.bool (!fin .f32 x)) ∧ w' = w.drewN n := by
  go_enter Try.func64, Try.ntmps64
  go_wp2_with fail
  refine (i_IsFinite _ _).mono ?_
  rintro e w' ⟨n, rfl, rfl⟩
  go_wp2
  go_ret
  exact ⟨_, rfl, rfl⟩
theorem fin_zero : fin .f32 0 = true := by decide +kernel
theorem i_notAmount (x : Nat) (w : World) :
    Calls Try.prog 121 #[.float .f32 x] w fun e w' => ∃ n, e = .returned (.bool (!amount x)) ∧ w' = w.drewN n := by
  cases h : fin .f32 x
  · go_enter Try.func121, Try.ntmps121
    go_wp2_with fail
    refine (i_IsFinite _ _).mono ?_
    rintro e w' ⟨n, rfl, rfl⟩
    rw [h]
    go_wp2
    go_ret
    exact ⟨_, by simp [amount, h], rfl⟩
  · have hl := lss_not_geq (isn_of_fin h) (isn_of_fin fin_zero)
    unfold lss32 at hl
    go_enter Try.func121, Try.ntmps121
    go_wp2_with fail
    refine (i_IsFinite _ _).mono ?_
    rintro e w' ⟨n, rfl, rfl⟩
    rw [h]
    go_wp2
    go_ret
    exact ⟨_, by simp [amount, h], rfl⟩
theorem s_l02Least (x : Nat) (w : World) :
    Calls Try.prog 117 #[.float .f32 x] w fun e w' => ∃ n, e = .returned (.bool (amount x)) ∧ w' = w.drewN n := by
  cases h : fin .f32 x
  · go_enter Try.func117, Try.ntmps117
    go_wp2_with fail
    refine (s_l01Finite _ _).mono ?_
    rintro e w' ⟨n, rfl, rfl⟩
    rw [h]
    go_wp2
    go_ret
    exact ⟨_, by simp [amount, h], rfl⟩
  · go_enter Try.func117, Try.ntmps117
    go_wp2_with fail
    refine (s_l01Finite _ _).mono ?_
    rintro e w' ⟨n, rfl, rfl⟩
    rw [h]
    go_wp2
    go_ret
    exact ⟨_, by simp [amount, h, geq32], rfl⟩
/-- what IndexFunc finds: the first place where p says yes, or -1 -/
def Found (p : Nat → Bool) (xs : List Nat) (i : Int) : Prop :=
  (i = -1 ∧ ∀ j, j < xs.length → p (xs.getD j 0) = false) ∨ (∃ k : Nat, k < xs.length ∧ i = k ∧ p (xs.getD k 0) = true ∧ ∀ j, j < k → p (xs.getD j 0) = false)
def NoneTill (p : Nat → Bool) (xs : List Nat) (k : Nat) : Prop := ∀ j, j < k → p (xs.getD j 0) = false
theorem NoneTill.step {p : Nat → Bool} {xs : List Nat} {k : Nat} (h : NoneTill p xs k) (hk : p (xs.getD k 0) = false) : NoneTill p xs (k + 1) := by
  intro j hj
  by_cases e : j = k
  · rw [e]; exact hk
  · exact h j (by omega)
theorem lib_IndexFunc_notFinite
    (A : Option Addr) (cap : Nat) (xs : List Nat) (w : World) (h : Fl w A xs) (hn : xs.length ≤ 1048576) :
    Calls Try.prog 153 #[.slice A xs.length cap, .func (.func 64) #[] #[]] w fun e w' => ∃ n i, e = .returned (.int .i64 i) ∧ Found (fun x => !fin .f32 x) xs i ∧ w' = w.drewN n := by
  go_enter Try.func153, Try.ntmps153
  go_wp2
  go_loopw [8] (fun i wr => ∃ k n : Nat, k ≤ xs.length ∧ i = .int .i64 k ∧ Hid (NoneTill (fun x => !fin .f32 x) xs k) ∧ wr = w.drewN n) (fun i _ => xs.length - (intOf i).toNat)
  case atStart => exact ⟨0, 0, Nat.zero_le _, rfl, Lib.hid (fun j hj => by omega), rfl⟩
  case round =>
    obtain ⟨k, n, hk, rfl, hr, rfl⟩ := hrel
    by_cases hlt : k < xs.length
    · obtain ⟨b, off, rfl, hb, hc⟩ := h.at_ hlt
      have HB := Lib.hid h; clear h
      obtain ⟨x, hx⟩ : ∃ x, x = xs.getD k 0 := ⟨_, rfl⟩
      rw [← hx] at hc
      have HX := Lib.hid hx; clear hx
      go_wp2_with fail
      refine (i_notFinite _ _).mono ?_
      rintro e w' ⟨m, rfl, rfl⟩
      cases hp : !fin .f32 x
      · have HS : Hid (NoneTill (fun x => !fin .f32 x) xs (k + 1)) := Lib.hid (hr.out.step (by show (!fin .f32 (xs.getD k 0)) = false; rw [← HX.out, hp]))
        clear hp
        go_wp2
        go_roundw
        case rel => exact ⟨k + 1, _, by omega, by go_num, HS, rfl⟩
        case measure => simp [intOf]; omega
      · have HS : Hid (Found (fun x => !fin .f32 x) xs k) := Lib.hid (.inr ⟨k, hlt, rfl, by show (!fin .f32 (xs.getD k 0)) = true; rw [← HX.out, hp], hr.out⟩)
        clear hp
        go_wp2
        go_ret
        exact ⟨_, _, rfl, HS.out, rfl⟩
    · have hkk : k = xs.length := by omega
      subst hkk
      have HB := Lib.hid h; clear h
      go_wp2
      go_ret
      exact ⟨_, _, rfl, .inl ⟨rfl, hr.out⟩, rfl⟩
theorem lib_ContainsFunc_notFinite
    (A : Option Addr) (cap : Nat) (xs : List Nat) (w : World) (h : Fl w A xs) (hn : xs.length ≤ 1048576) :
    Calls Try.prog 115 #[.slice A xs.length cap, .func (.func 64) #[] #[]] w fun e w' => ∃ n r, e = .returned (.bool r) ∧ (∃ i, Found (fun x => !fin .f32 x) xs i ∧ r = decide (0 ≤ i)) ∧ w' = w.drewN n := by
  have H := Lib.hid h; clear h
  go_enter Try.func115, Try.ntmps115
  go_wp2_with fail
  refine (lib_IndexFunc_notFinite A cap xs _ H.out hn).mono ?_
  rintro e w' ⟨n, i, rfl, hi, rfl⟩
  have HI := Lib.hid hi; clear hi
  go_wp2
  go_ret
  exact ⟨_, _, rfl, ⟨i, HI.out, rfl⟩, rfl⟩
theorem lib_IndexFunc_notAmount
    (A : Option Addr) (cap : Nat) (xs : List Nat) (w : World) (h : Fl w A xs) (hn : xs.length ≤ 1048576) :
    Calls Try.prog 153 #[.slice A xs.length cap, .func (.func 121) #[] #[]] w fun e w' => ∃ n i, e = .returned (.int .i64 i) ∧ Found (fun x => !amount x) xs i ∧ w' = w.drewN n := by
  go_enter Try.func153, Try.ntmps153
  go_wp2
  go_loopw [8] (fun i wr => ∃ k n : Nat, k ≤ xs.length ∧ i = .int .i64 k ∧ Hid (NoneTill (fun x => !amount x) xs k) ∧ wr = w.drewN n) (fun i _ => xs.length - (intOf i).toNat)
  case atStart => exact ⟨0, 0, Nat.zero_le _, rfl, Lib.hid (fun j hj => by omega), rfl⟩
  case round =>
    obtain ⟨k, n, hk, rfl, hr, rfl⟩ := hrel
    by_cases hlt : k < xs.length
    · obtain ⟨b, off, rfl, hb, hc⟩ := h.at_ hlt
      have HB := Lib.hid h; clear h
      obtain ⟨x, hx⟩ : ∃ x, x = xs.getD k 0 := ⟨_, rfl⟩
      rw [← hx] at hc
      have HX := Lib.hid hx; clear hx
      go_wp2_with fail
      refine (i_notAmount _ _).mono ?_
      rintro e w' ⟨m, rfl, rfl⟩
      cases hp : !amount x
      · have HS : Hid (NoneTill (fun x => !amount x) xs (k + 1)) := Lib.hid (hr.out.step (by show (!amount (xs.getD k 0)) = false; rw [← HX.out, hp]))
        clear hp
        go_wp2
        go_roundw
        case rel => exact ⟨k + 1, _, by omega, by go_num, HS, rfl⟩
        case measure => simp [intOf]; omega
      · have HS : Hid (Found (fun x => !amount x) xs k) := Lib.hid (.inr ⟨k, hlt, rfl, by show (!amount (xs.getD k 0)) = true; rw [← HX.out, hp], hr.out⟩)
        clear hp
        go_wp2
        go_ret
        exact ⟨_, _, rfl, HS.out, rfl⟩
    · have hkk : k = xs.length := by omega
      subst hkk
      have HB := Lib.hid h; clear h
      go_wp2
      go_ret
      exact ⟨_, _, rfl, .inl ⟨rfl, hr.out⟩, rfl⟩
theorem lib_ContainsFunc_notAmount
    (A : Option Addr) (cap : Nat) (xs : List Nat) (w : World) (h : Fl w A xs) (hn : xs.length ≤ 1048576) :
    Calls Try.prog 115 #[.slice A xs.length cap, .func (.func 121) #[] #[]] w fun e w' => ∃ n r, e = .returned (.bool r) ∧ (∃ i, Found (fun x => !amount x) xs i ∧ r = decide (0 ≤ i)) ∧ w' = w.drewN n := by
  have H := Lib.hid h; clear h
  go_enter Try.func115, Try.ntmps115
  go_wp2_with fail
  refine (lib_IndexFunc_notAmount A cap xs _ H.out hn).mono ?_
  rintro e w' ⟨n, i, rfl, hi, rfl⟩
  have HI := Lib.hid hi; clear hi
  go_wp2
  go_ret
  exact ⟨_, _, rfl, ⟨i, HI.out, rfl⟩, rfl⟩
theorem found_fins {xs : List Nat} {i : Int} (h : Found (fun x => !fin .f32 x) xs i) : (decide (0 ≤ i)) = !fins xs xs.length := by
  have hy : ∀ k, (∀ j, j < k → (!fin .f32 (xs.getD j 0)) = false) → fins xs k = true := by
    intro k; induction k with
    | zero => intro _; rfl
    | succ k ih => intro hk; simp only [fins, ih (fun j hj => hk j (by omega)), Bool.true_and]; simpa using hk k (by omega)
  rcases h with ⟨rfl, h⟩ | ⟨k, hk, rfl, hp, -⟩
  · rw [hy _ h]; rfl
  · have : fins xs (k + 1) = false := by simp only [fins]; rw [show fin .f32 (xs.getD k 0) = false by simpa using hp, Bool.and_false]
    rw [fins_no this (by omega)]; simp
theorem found_amts {xs : List Nat} {i : Int} (h : Found (fun x => !amount x) xs i) : (decide (0 ≤ i)) = !amts xs xs.length := by
  have hy : ∀ k, (∀ j, j < k → (!amount (xs.getD j 0)) = false) → amts xs k = true := by
    intro k; induction k with
    | zero => intro _; rfl
    | succ k ih => intro hk; simp only [amts, ih (fun j hj => hk j (by omega)), Bool.true_and]; simpa using hk k (by omega)
  rcases h with ⟨rfl, h⟩ | ⟨k, hk, rfl, hp, -⟩
  · rw [hy _ h]; rfl
  · have : amts xs (k + 1) = false := by simp only [amts]; rw [show amount (xs.getD k 0) = false by simpa using hp, Bool.and_false]
    rw [amts_no this (by omega)]; simp
theorem i_hasInfinite (A : Option Addr) (cap : Nat) (xs : List Nat) (w : World) (h : Fl w A xs) (hn : xs.length ≤ 1048576) :
    Calls Try.prog 115 #[.slice A xs.length cap, .func (.func 64) #[] #[]] w fun e w' => ∃ n, e = .returned (.bool (!fins xs xs.length)) ∧ w' = w.drewN n :=
  (lib_ContainsFunc_notFinite A cap xs w h hn).mono fun _ _ ⟨n, _, he, ⟨_, hi, hr⟩, hw⟩ => ⟨n, by rw [he, hr, found_fins hi], hw⟩
theorem i_hasNoAmount (A : Option Addr) (cap : Nat) (xs : List Nat) (w : World) (h : Fl w A xs) (hn : xs.length ≤ 1048576) :
    Calls Try.prog 115 #[.slice A xs.length cap, .func (.func 121) #[] #[]] w fun e w' => ∃ n, e = .returned (.bool (!amts xs xs.length)) ∧ w' = w.drewN n :=
  (lib_ContainsFunc_notAmount A cap xs w h hn).mono fun _ _ ⟨n, _, he, ⟨_, hi, hr⟩, hw⟩ => ⟨n, by rw [he, hr, found_amts hi], hw⟩
section
variable {H : Type} {enc : TypeId × Value → H} {P : Program} {w : World} {base : Nat} {spare : Nat → Bool} {held : Bool}
open Go.ChangeShapes Go.WideShapes
/-- A slice of 32-bit numbers in a field. -/
theorem open_f32sT {t e : TypeId} {c : Value} {y : DataW H × List MemPlace} {fuel : Nat} (ht : P.underlying t = some (.slice e)) (he : P.underlying e = some (.float .f32)) (hc : P.cellsOf e = 1)
    (h : DataW.trod enc P w base spare held fuel t [c] = some y) :
    ∃ (A : Option Addr) (cap : Nat) (xs : List Nat), c = .slice A xs.length cap ∧ xs.length ≤ maxLen ∧ Fl w A xs := by
  have hs : ∃ A len cap, c = .slice A len cap := by
    rcases DataW.trod_slice ht h with ⟨h0, -⟩ | ⟨a, len', cap', elems, rest, n, -, hcs, -⟩
    · simp at h0; exact ⟨_, _, _, h0⟩
    · simp at hcs; exact ⟨_, _, _, hcs⟩
  obtain ⟨A, len, cap, rfl⟩ := hs
  obtain ⟨xs, rfl, hm, hf, -⟩ := open_f32s (d := y.1) (ps := y.2) ht he hc ⟨fuel, by simpa [Value.cells] using h⟩
  exact ⟨A, cap, xs, rfl, hm, hf⟩
end
end Go.Proofs.Ytpmjikchlofebaa
