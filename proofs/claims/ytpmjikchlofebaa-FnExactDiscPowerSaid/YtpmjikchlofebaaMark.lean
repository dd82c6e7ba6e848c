/- Results in memory of their own: how the laws mark them, and look at the marks again. No statement is proved here. -/
import Derived.Test.YtpmjikchlofebaaVal
import Derived.Test.YtpmjikchlofebaaNum
namespace Go.Proofs.Ytpmjikchlofebaa
open Go Go.RowKit
theorem ofInt_bd (n : Int) (h : n.natAbs ≤ 2 ^ 24) : Bd .f32 24 (floatOfInt .f32 n) := by
  have hb : Le2 n.natAbs 0 24 := ⟨h, fun h' => by omega⟩
  exact bd_write fmt32 hb (by decide) (by decide)
theorem isn_ofInt (k j : Nat) (h : k + j ≤ 16777216) : isn .f32 (floatOfInt .f32 ((k : Int) + (j : Int))) = false := bd_not_nan (ofInt_bd _ (by omega))
/-- the marks from k on -/
def marks (k n : Nat) : List Nat := (List.range n).map fun (j : Nat) => floatOfInt .f32 ((k : Int) + (j : Int))
theorem marks_length (k n : Nat) : (marks k n).length = n := by simp [marks]
theorem marks_at {k n j : Nat} (h : j < n) : (marks k n).getD j 0 = floatOfInt .f32 ((k : Int) + (j : Int)) := by simp [marks, List.getD, h]
/-- what turns between two worlds: cells of the blocks of S, and new memory -/
def Turn (w w' : World) (S : Nat → Prop) : Prop :=
  w.heap.size ≤ w'.heap.size ∧ (∀ p : Addr, p.block < w.heap.size → ¬ S p.block → w'.cell? p = w.cell? p) ∧ (∀ p : Addr, p.block < w.heap.size → w'.frozen? p = w.frozen? p) ∧
  ∀ w0 : World, Below w0.heap.size w0 w → (∀ b, S b → w0.heap.size ≤ b) → Below w0.heap.size w0 w'
theorem Turn.refl (w : World) (S : Nat → Prop) : Turn w w S := ⟨Nat.le_refl _, fun _ _ _ => rfl, fun _ _ => rfl, fun _ h _ => h⟩
theorem Turn.of_below {w w' : World} (h : Below w.heap.size w w') (S : Nat → Prop) : Turn w w' S :=
  ⟨h.size, fun _ hp _ => h.cell hp, fun _ hp => h.frozen hp, fun _ h0 _ => below_of h0 h0.size h⟩
theorem Turn.trans {w w1 w2 : World} {S : Nat → Prop} (h : Turn w w1 S) (h' : Turn w1 w2 S) : Turn w w2 S :=
  ⟨Nat.le_trans h.1 h'.1, fun p hp hs => (h'.2.1 p (Nat.lt_of_lt_of_le hp h.1) hs).trans (h.2.1 p hp hs), fun p hp => (h'.2.2.1 p (Nat.lt_of_lt_of_le hp h.1)).trans (h.2.2.1 p hp),
    fun w0 h0 hs => h'.2.2.2 w0 (h.2.2.2 w0 h0 hs) hs⟩
theorem Turn.mono {w w' : World} {S T : Nat → Prop} (h : Turn w w' S) (hst : ∀ b, S b → T b) : Turn w w' T :=
  ⟨h.1, fun p hp hs => h.2.1 p hp (fun hh => hs (hst _ hh)), h.2.2.1, fun w0 h0 hs => h.2.2.2 w0 h0 (fun b hb => hs b (hst b hb))⟩
theorem Turn.set (w : World) {B : Nat} (p : Addr) (hp : p.block = B) (v : Value) : Turn w (w.setCell p v) (fun b => b = B) :=
  ⟨by simp [World.setCell], fun q _ hq => by rw [World.cell?_setCell_other (h := by intro hh; exact hq (by rw [← hh]; exact hp))], fun q _ => by rw [World.frozen?_setCell], fun w0 h0 hs => h0.setCell (by rw [hp]; exact hs B rfl) v⟩
theorem Turn.draws (w : World) (n : Nat) (S : Nat → Prop) : Turn w (w.drewN n) S := Turn.of_below (below_draws (Below.refl _ _) n) S
theorem Own.turn {w w' : World} {S : Nat → Prop} {b : Nat} {xs : List Nat} (h : Own w b xs) (ht : Turn w w' S) (hs : ¬ S b) : Own w' b xs :=
  ⟨Nat.lt_of_lt_of_le h.1 ht.1, fun j hj => ⟨by rw [ht.2.1 ⟨b, j, none⟩ h.1 hs]; exact (h.2 j hj).1, by rw [ht.2.2.1 ⟨b, j, none⟩ h.1]; exact (h.2 j hj).2⟩⟩
theorem Blk3.turn {w w' : World} {S : Nat → Prop} {B : Nat} {v0 v1 v2 : Value} (h : Blk3 w B v0 v1 v2) (ht : Turn w w' S) (hs : ¬ S B) : Blk3 w' B v0 v1 v2 := by
  obtain ⟨h0, ⟨h1, h2, h3⟩, h4, h5, h6⟩ := h
  refine ⟨Nat.lt_of_lt_of_le h0 ht.1, ⟨?_, ?_, ?_⟩, ?_, ?_, ?_⟩
  · rw [ht.2.1 ⟨B, 0, none⟩ h0 hs, h1]
  · rw [ht.2.1 ⟨B, 1, none⟩ h0 hs, h2]
  · rw [ht.2.1 ⟨B, 2, none⟩ h0 hs, h3]
  · rw [ht.2.2.1 ⟨B, 0, none⟩ h0, h4]
  · rw [ht.2.2.1 ⟨B, 1, none⟩ h0, h5]
  · rw [ht.2.2.1 ⟨B, 2, none⟩ h0, h6]
/-- a slice of the call's own, or an empty one -/
def OwnO (w : World) (B0 : Nat) (A : Option Addr) (b : Nat) (xs : List Nat) : Prop := xs = [] ∨ (A = some ⟨b, 0, none⟩ ∧ B0 ≤ b ∧ Own w b xs)
theorem OwnO.a {w : World} {B0 b : Nat} {A : Option Addr} {xs : List Nat} (h : OwnO w B0 A b xs) : xs = [] ∨ (A = some ⟨b, 0, none⟩ ∧ Own w b xs) := by
  rcases h with h | ⟨h1, -, h2⟩
  · exact .inl h
  · exact .inr ⟨h1, h2⟩
theorem OwnO.fl {w : World} {B0 b : Nat} {A : Option Addr} {xs : List Nat} (h : OwnO w B0 A b xs) : Fl w A xs := by
  rcases h with h | ⟨rfl, -, h⟩
  · exact .inl h
  · exact h.fl
theorem OwnO.below {w w' : World} {B0 b : Nat} {A : Option Addr} {xs : List Nat} (h : OwnO w B0 A b xs) (hb : Below w.heap.size w w') : OwnO w' B0 A b xs := by
  rcases h with h | ⟨h1, h2, h3⟩
  · exact .inl h
  · exact .inr ⟨h1, h2, h3.below hb⟩
theorem OwnO.turn {w w' : World} {S : Nat → Prop} {B0 b : Nat} {A : Option Addr} {xs : List Nat} (h : OwnO w B0 A b xs) (ht : Turn w w' S) (hs : ¬ S b) : OwnO w' B0 A b xs := by
  rcases h with h | ⟨h1, h2, h3⟩
  · exact .inl h
  · exact .inr ⟨h1, h2, h3.turn ht hs⟩
/-- as OwnO, for a walk -/
def OwnA (w : World) (A : Option Addr) (b : Nat) (xs : List Nat) : Prop := xs = [] ∨ (A = some ⟨b, 0, none⟩ ∧ Own w b xs)
/-- the block of a list, if it has any number -/
def SB (xs : List Nat) (B : Nat) : Nat → Prop := fun b => xs ≠ [] ∧ b = B
theorem OwnO.notS {w : World} {B0 b : Nat} {A : Option Addr} {xs : List Nat} (h : OwnO w B0 A b xs) {c : Nat} (hc : w.heap.size ≤ c) : ¬ SB xs b c := by
  rintro ⟨h0, rfl⟩
  rcases h with h | ⟨-, -, h⟩
  · exact h0 h
  · have := h.1; omega
theorem OwnO.leS {w : World} {B0 b : Nat} {A : Option Addr} {xs : List Nat} (h : OwnO w B0 A b xs) {c : Nat} (hc : SB xs b c) : B0 ≤ c := by
  obtain ⟨h0, rfl⟩ := hc
  rcases h with h | ⟨-, h, -⟩
  · exact absurd h h0
  · exact h
theorem OwnO.lt {w : World} {B0 b : Nat} {A : Option Addr} {xs : List Nat} (h : OwnO w B0 A b xs) (hx : xs ≠ []) : B0 ≤ b ∧ b < w.heap.size := by
  rcases h with h | ⟨-, h1, h2⟩
  · exact absurd h hx
  · exact ⟨h1, h2.1⟩
theorem SB.ne {xs : List Nat} {b c : Nat} (h : c ≠ b) : ¬ SB xs b c := fun hh => h hh.2
/-- a profile of the call's own, or an empty one -/
def OwnQ (w : World) (B0 : Nat) (A L D : Option Addr) (b1 b2 b3 : Nat) (a l d : List Nat) : Prop :=
  OwnO w B0 A b1 a ∧ OwnO w B0 L b2 l ∧ OwnO w B0 D b3 d ∧ b1 ≠ b2 ∧ b1 ≠ b3 ∧ b2 ≠ b3
theorem OwnQ.pf {w : World} {B0 b1 b2 b3 : Nat} {A L D : Option Addr} {a l d : List Nat} (h : OwnQ w B0 A L D b1 b2 b3 a l d) : Pf w A L D a l d := ⟨h.1.fl, h.2.1.fl, h.2.2.1.fl⟩
theorem OwnQ.below {w w' : World} {B0 b1 b2 b3 : Nat} {A L D : Option Addr} {a l d : List Nat} (h : OwnQ w B0 A L D b1 b2 b3 a l d) (hb : Below w.heap.size w w') : OwnQ w' B0 A L D b1 b2 b3 a l d :=
  ⟨h.1.below hb, h.2.1.below hb, h.2.2.1.below hb, h.2.2.2⟩
theorem OwnQ.turn {w w' : World} {S : Nat → Prop} {B0 b1 b2 b3 : Nat} {A L D : Option Addr} {a l d : List Nat} (h : OwnQ w B0 A L D b1 b2 b3 a l d) (ht : Turn w w' S) (h1 : ¬ S b1) (h2 : ¬ S b2) (h3 : ¬ S b3) : OwnQ w' B0 A L D b1 b2 b3 a l d :=
  ⟨h.1.turn ht h1, h.2.1.turn ht h2, h.2.2.1.turn ht h3, h.2.2.2⟩
def SQ (a l d : List Nat) (b1 b2 b3 : Nat) : Nat → Prop := fun b => SB a b1 b ∨ SB l b2 b ∨ SB d b3 b
theorem OwnQ.leS {w : World} {B0 b1 b2 b3 : Nat} {A L D : Option Addr} {a l d : List Nat} (h : OwnQ w B0 A L D b1 b2 b3 a l d) {b : Nat} (hb : SQ a l d b1 b2 b3 b) : B0 ≤ b ∧ b < w.heap.size := by
  rcases hb with ⟨h1, rfl⟩ | ⟨h1, rfl⟩ | ⟨h1, rfl⟩
  · exact h.1.lt h1
  · exact h.2.1.lt h1
  · exact h.2.2.1.lt h1
theorem OwnQ.turnS {w w' : World} {S : Nat → Prop} {B0 b1 b2 b3 : Nat} {A L D : Option Addr} {a l d : List Nat} (h : OwnQ w B0 A L D b1 b2 b3 a l d) (ht : Turn w w' S) (hs : ∀ b, SQ a l d b1 b2 b3 b → ¬ S b) : OwnQ w' B0 A L D b1 b2 b3 a l d := by
  refine ⟨?_, ?_, ?_, h.2.2.2⟩
  · by_cases hx : a = []
    · exact .inl hx
    · exact h.1.turn ht (hs _ (.inl ⟨hx, rfl⟩))
  · by_cases hx : l = []
    · exact .inl hx
    · exact h.2.1.turn ht (hs _ (.inr (.inl ⟨hx, rfl⟩)))
  · by_cases hx : d = []
    · exact .inl hx
    · exact h.2.2.1.turn ht (hs _ (.inr (.inr ⟨hx, rfl⟩)))
theorem OwnQ.turn' {w w' : World} {S : Nat → Prop} {B0 b1 b2 b3 : Nat} {A L D : Option Addr} {a l d : List Nat} (h : OwnQ w B0 A L D b1 b2 b3 a l d) (ht : Turn w w' S) (hs : ∀ b, B0 ≤ b → b < w.heap.size → ¬ S b) : OwnQ w' B0 A L D b1 b2 b3 a l d := by
  refine ⟨?_, ?_, ?_, h.2.2.2⟩
  · by_cases hx : a = []
    · exact .inl hx
    · exact h.1.turn ht (hs _ (h.1.lt hx).1 (h.1.lt hx).2)
  · by_cases hx : l = []
    · exact .inl hx
    · exact h.2.1.turn ht (hs _ (h.2.1.lt hx).1 (h.2.1.lt hx).2)
  · by_cases hx : d = []
    · exact .inl hx
    · exact h.2.2.1.turn ht (hs _ (h.2.2.1.lt hx).1 (h.2.2.1.lt hx).2)
theorem OwnP.q {w : World} {B b1 b2 b3 : Nat} {a l d : List Nat} (h : OwnP w B b1 b2 b3 a l d) : OwnQ w B (some ⟨b1, 0, none⟩) (some ⟨b2, 0, none⟩) (some ⟨b3, 0, none⟩) b1 b2 b3 a l d :=
  ⟨.inr ⟨rfl, h.1, h.2.2.2.1⟩, .inr ⟨rfl, by have := h.1; have := h.2.1; omega, h.2.2.2.2.1⟩, .inr ⟨rfl, by have := h.1; have := h.2.1; have := h.2.2.1; omega, h.2.2.2.2.2⟩, by have := h.2.1; omega, by have := h.2.1; have := h.2.2.1; omega, by have := h.2.2.1; omega⟩
/-- k of the marks are written -/
def half (xs : List Nat) (k0 k : Nat) : List Nat := (List.range xs.length).map fun j => if j < k then floatOfInt .f32 ((k0 : Int) + (j : Int)) else xs.getD j 0
theorem half_length (xs : List Nat) (k0 k : Nat) : (half xs k0 k).length = xs.length := by simp [half]
theorem half_at {xs : List Nat} {k0 k j : Nat} (h : j < xs.length) : (half xs k0 k).getD j 0 = if j < k then floatOfInt .f32 ((k0 : Int) + (j : Int)) else xs.getD j 0 := by simp [half, List.getD, h]
theorem half_zero (xs : List Nat) (k0 : Nat) : half xs k0 0 = xs := by
  apply List.ext_getElem
  · simp [half]
  · intro j h1 h2; simp [half, List.getD, h2]
theorem half_all (xs : List Nat) (k0 : Nat) : half xs k0 xs.length = marks k0 xs.length := by
  apply List.ext_getElem
  · simp [half, marks]
  · intro j h1 h2
    simp [half] at h1
    simp [half, marks, h1]
theorem Own.mark {w : World} {B : Nat} {xs : List Nat} {k0 k : Nat} (h : Own w B (half xs k0 k)) (hk : k < xs.length) : Own (w.setCell ⟨B, k, none⟩ (.float .f32 (floatOfInt .f32 ((k0 : Int) + (k : Int))))) B (half xs k0 (k + 1)) := by
  refine ⟨by simpa [World.setCell] using h.1, fun j hj => ⟨?_, ?_⟩⟩
  · rw [half_length] at hj
    rw [half_at hj]
    obtain ⟨h1, -⟩ := h.2 j (by rw [half_length]; exact hj)
    by_cases e : j = k
    · subst e
      rw [World.cell?_setCell_same (h := h1), if_pos (by omega)]
    · rw [World.cell?_setCell_other (h := by intro hh; simp only [Addr.mk.injEq] at hh; omega), h1, half_at hj]
      by_cases hj2 : j < k
      · rw [if_pos hj2, if_pos (by omega)]
      · rw [if_neg hj2, if_neg (by omega)]
  · rw [half_length] at hj
    rw [World.frozen?_setCell]; exact (h.2 j (by rw [half_length]; exact hj)).2
set_option maxHeartbeats 2000000 in
theorem l_markF32 (A : Option Addr) (B cap k0 : Nat) (xs : List Nat) (w : World) (h : OwnA w A B xs) (hn : xs.length ≤ 1048576) (hk0 : k0 ≤ 4194304) (K : Int) (hK : K = (k0 : Int)) :
    Calls Try.prog 19 #[.slice A xs.length cap, .int .i64 K] w fun e w' => e = .returned (.int .i64 ((k0 : Int) + (xs.length : Int))) ∧ (xs = [] ∨ Own w' B (marks k0 xs.length)) ∧ Turn w w' (SB xs B) := by
  subst hK
  have H := Lib.hid h; clear h
  go_enter Try.func19, Try.ntmps19
  go_wp2
  go_loopw [1, 5] (fun q i wr => ∃ k : Nat, k ≤ xs.length ∧ i = .int .i64 k ∧ q = .int .i64 ((k0 : Int) + (k : Int)) ∧ Hid (OwnA wr A B (half xs k0 k)) ∧ Hid (Turn w wr (SB xs B))) (fun _ i _ => xs.length - (intOf i).toNat)
  case atStart => exact ⟨0, Nat.zero_le _, rfl, by simp, Lib.hid (by rw [half_zero]; exact H.out), Lib.hid (Turn.refl _ _)⟩
  case round =>
    obtain ⟨k, hk, rfl, rfl, HO, HT⟩ := hrel
    by_cases hlt : k < xs.length
    · rcases HO.out with h0 | ⟨rfl, ho⟩
      · have := congrArg List.length h0
        rw [half_length] at this
        rw [this] at hlt; cases hlt
      · obtain ⟨hc, hf⟩ := ho.2 k (by rw [half_length]; exact hlt)
        have HS : Hid (OwnA (wr.setCell ⟨B, k, none⟩ (.float .f32 (floatOfInt .f32 ((k0 : Int) + (k : Int))))) (some ⟨B, 0, none⟩) B (half xs k0 (k + 1))) := Lib.hid (.inr ⟨rfl, ho.mark hlt⟩)
        have HT2 : Hid (Turn w (wr.setCell ⟨B, k, none⟩ (.float .f32 (floatOfInt .f32 ((k0 : Int) + (k : Int))))) (SB xs B)) := Lib.hid (HT.out.trans ((Turn.set wr ⟨B, k, none⟩ rfl _).mono (fun b hb => ⟨(by intro h0; rw [h0] at hlt; cases hlt), hb⟩)))
        clear ho HO H HT
        go_wp2
        go_roundw
        case rel => exact ⟨k + 1, by omega, by go_num, congrArg (Value.int IntKind.i64) (by omega), HS, HT2⟩
        case measure => simp [intOf]; omega
    · have hkk : k = xs.length := by omega
      subst hkk
      go_wp2
      go_ret
      refine ⟨rfl, ?_, HT.out⟩
      rcases HO.out with h0 | ⟨-, ho⟩
      · left
        have := congrArg List.length h0
        rw [half_length] at this
        exact List.eq_nil_of_length_eq_zero this
      · rw [half_all] at ho; exact .inr ho
set_option maxHeartbeats 2000000 in
theorem l_heldF32 (A : Option Addr) (B cap k0 n : Nat) (w : World) (h : OwnA w A B (marks k0 n)) (hn : n ≤ 1048576) (hk0 : k0 ≤ 4194304) (K : Int) (hK : K = (k0 : Int)) :
    Calls Try.prog 41 #[.slice A n cap, .int .i64 K] w fun e w' => ∃ m, e = .returned (.int .i64 ((k0 : Int) + (n : Int))) ∧ w' = w.drewN m := by
  subst hK
  have H := Lib.hid h; clear h
  go_enter Try.func41, Try.ntmps41
  go_wp2
  go_loopw [1, 5] (fun q i wr => ∃ k m : Nat, k ≤ n ∧ i = .int .i64 k ∧ q = .int .i64 ((k0 : Int) + (k : Int)) ∧ wr = w.drewN m) (fun _ i _ => n - (intOf i).toNat)
  case atStart => exact ⟨0, 0, Nat.zero_le _, rfl, by simp, rfl⟩
  case round =>
    obtain ⟨k, m, hk, rfl, rfl, rfl⟩ := hrel
    by_cases hlt : k < n
    · rcases H.out with h0 | ⟨rfl, ho⟩
      · have := congrArg List.length h0
        rw [marks_length] at this
        rw [this] at hlt; cases hlt
      · obtain ⟨hc, -⟩ := ho.2 k (by rw [marks_length]; exact hlt)
        rw [marks_at hlt] at hc
        have hno : (FloatKind.f32.format.order (floatOfInt .f32 ((k0 : Int) + (k : Int))) (floatOfInt .f32 ((k0 : Int) + (k : Int))) != some .eq) = false := by rw [order_self, isn_ofInt _ _ (by omega)]; rfl
        clear ho H
        go_wp2
        go_roundw
        case rel => exact ⟨k + 1, _, by omega, by go_num, congrArg (Value.int IntKind.i64) (by omega), by first | rfl | (simp only [World.drewN_drewN]; rfl)⟩
        case measure => simp [intOf]; omega
    · have hkk : k = n := by omega
      subst hkk
      go_wp2
      go_ret
      exact ⟨_, rfl, rfl⟩
end Go.Proofs.Ytpmjikchlofebaa
