/- Lists of bools: what holds them, and how the laws mark them. No statement is proved here. -/
import Derived.Test.YtpchkedgjikpfabMarkR
namespace Go.Proofs.Ytpchkedgjikpfab
open Go Go.RowKit
/-- the mark of a bool -/
def mk3 (n : Nat) : Bool := decide (n % 3 = 0)
theorem mk3_eq (a b : Nat) : ((((a : Int) + (b : Int)) % 3) == 0) = mk3 (a + b) := by
  unfold mk3
  rw [Bool.eq_iff_iff]
  simp only [beq_iff_eq, decide_eq_true_eq]
  omega
/-- a slice that reads as these bools -/
def FlB (w : World) (A : Option Addr) (xs : List Bool) : Prop :=
  xs = [] ∨ ∃ b off, A = some ⟨b, off, none⟩ ∧ b < w.heap.size ∧ ∀ k, k < xs.length → w.cell? ⟨b, off + k, none⟩ = some (.bool (xs.getD k false))

theorem FlB.below {w w' : World} {A : Option Addr} {xs : List Bool} (h : FlB w A xs) (hb : Below w.heap.size w w') : FlB w' A xs := by
  rcases h with h | ⟨b, off, e, hlt, hc⟩
  · exact .inl h
  · exact .inr ⟨b, off, e, Nat.lt_of_lt_of_le hlt hb.size, fun k hk => by rw [hb.cell (p := ⟨b, off + k, none⟩) hlt]; exact hc k hk⟩
theorem FlB.draws {w : World} {A : Option Addr} {xs : List Bool} (h : FlB w A xs) (n : Nat) : FlB (w.drewN n) A xs := h
theorem FlB.at_ {w : World} {A : Option Addr} {xs : List Bool} (h : FlB w A xs) {k : Nat} (hk : k < xs.length) :
    ∃ b off, A = some ⟨b, off, none⟩ ∧ b < w.heap.size ∧ w.cell? ⟨b, off + k, none⟩ = some (.bool (xs.getD k false)) := by
  rcases h with h | ⟨b, off, e, hlt, hc⟩
  · subst h; simp at hk
  · exact ⟨b, off, e, hlt, hc k hk⟩

/-- a new block of n numbers, of which k are written -/
def FlNewB (w wr : World) (B n k : Nat) (xs : List Bool) : Prop :=
  Below w.heap.size w wr ∧ w.heap.size ≤ B ∧ B < wr.heap.size ∧
  ∀ j, j < n → wr.cell? ⟨B, j, none⟩ = some (.bool (if j < k then xs.getD j false else false)) ∧ wr.frozen? ⟨B, j, none⟩ = false

theorem FlNewB.start (w : World) (n : Nat) (E : TypeId) (xs : List Bool) : FlNewB w (w.alloc (.cells (madeCells #[.bool false] n) E)) w.heap.size n 0 xs := by
  refine ⟨(Below.refl _ _).alloc (Nat.le_refl _) _, Nat.le_refl _, by simp, fun j hj => ⟨?_, ?_⟩⟩
  · rw [World.cell?_alloc_at (w := w) (hn := rfl)]
    rw [if_neg (Nat.not_lt_zero j)]
    simp [madeCells, hj, Nat.mod_one]
  · rw [World.frozen?_alloc_at (w := w) (hn := rfl)]

theorem FlNewB.step {w wr : World} {B n k : Nat} {xs : List Bool} (h : FlNewB w wr B n k xs) (_hk : k < n) : FlNewB w (wr.setCell ⟨B, k, none⟩ (.bool (xs.getD k false))) B n (k + 1) xs := by
  obtain ⟨h1, h2, h3, h4⟩ := h
  refine ⟨h1.setCell h2 _, h2, by simpa [World.setCell] using h3, fun j hj => ⟨?_, ?_⟩⟩
  · by_cases e : j = k
    · subst e
      rw [World.cell?_setCell_same (h := (h4 j hj).1), if_pos (by omega)]
    · rw [World.cell?_setCell_other (h := by intro hh; simp only [Addr.mk.injEq] at hh; omega), (h4 j hj).1]
      by_cases hj2 : j < k
      · rw [if_pos hj2, if_pos (by omega)]
      · rw [if_neg hj2, if_neg (by omega)]
  · rw [World.frozen?_setCell]; exact (h4 j hj).2

theorem FlNewB.done {w wr : World} {B k : Nat} {xs : List Bool} (h : FlNewB w wr B xs.length k xs) (hk : xs.length ≤ k) : FlB wr (some ⟨B, 0, none⟩) xs := by
  obtain ⟨h1, h2, h3, h4⟩ := h
  exact .inr ⟨B, 0, rfl, h3, fun j hj => by rw [Nat.zero_add, (h4 j hj).1, if_pos (by omega)]⟩
def OwnB (w : World) (B : Nat) (xs : List Bool) : Prop :=
  B < w.heap.size ∧ ∀ j, j < xs.length → w.cell? ⟨B, j, none⟩ = some (.bool (xs.getD j false)) ∧ w.frozen? ⟨B, j, none⟩ = false
theorem OwnB.of_new {w wr : World} {B k : Nat} {xs : List Bool} (h : FlNewB w wr B xs.length k xs) (hk : xs.length ≤ k) : OwnB wr B xs := by
  obtain ⟨h1, h2, h3, h4⟩ := h
  exact ⟨h3, fun j hj => ⟨by rw [(h4 j hj).1, if_pos (by omega)], (h4 j hj).2⟩⟩
theorem OwnB.fl {w : World} {B : Nat} {xs : List Bool} (h : OwnB w B xs) : FlB w (some ⟨B, 0, none⟩) xs :=
  .inr ⟨B, 0, rfl, h.1, fun k hk => by rw [Nat.zero_add]; exact (h.2 k hk).1⟩
theorem OwnB.below {w w' : World} {B : Nat} {xs : List Bool} (h : OwnB w B xs) (hb : Below w.heap.size w w') : OwnB w' B xs :=
  ⟨Nat.lt_of_lt_of_le h.1 hb.size, fun j hj => ⟨by rw [hb.cell (p := ⟨B, j, none⟩) h.1]; exact (h.2 j hj).1, by rw [hb.frozen (p := ⟨B, j, none⟩) h.1]; exact (h.2 j hj).2⟩⟩
theorem OwnB.setCell {w : World} {B : Nat} {xs : List Bool} (h : OwnB w B xs) {p : Addr} (hp : p.block ≠ B) (v : Value) : OwnB (w.setCell p v) B xs :=
  ⟨by simpa [World.setCell] using h.1, fun j hj => ⟨by rw [World.cell?_setCell_other (h := by intro hh; exact hp (by rw [hh]))]; exact (h.2 j hj).1, by rw [World.frozen?_setCell]; exact (h.2 j hj).2⟩⟩
def marksB (k n : Nat) : List Bool := (List.range n).map fun (j : Nat) => mk3 (k + j)
theorem marks_lengthB (k n : Nat) : (marksB k n).length = n := by simp [marksB]
theorem marks_atB {k n j : Nat} (h : j < n) : (marksB k n).getD j false = mk3 (k + j) := by simp [marksB, List.getD, h]
theorem OwnB.turn {w w' : World} {S : Nat → Prop} {b : Nat} {xs : List Bool} (h : OwnB w b xs) (ht : Turn w w' S) (hs : ¬ S b) : OwnB w' b xs :=
  ⟨Nat.lt_of_lt_of_le h.1 ht.1, fun j hj => ⟨by rw [ht.2.1 ⟨b, j, none⟩ h.1 hs]; exact (h.2 j hj).1, by rw [ht.2.2.1 ⟨b, j, none⟩ h.1]; exact (h.2 j hj).2⟩⟩
def OwnOB (w : World) (B0 : Nat) (A : Option Addr) (b : Nat) (xs : List Bool) : Prop := xs = [] ∨ (A = some ⟨b, 0, none⟩ ∧ B0 ≤ b ∧ OwnB w b xs)
theorem OwnOB.a {w : World} {B0 b : Nat} {A : Option Addr} {xs : List Bool} (h : OwnOB w B0 A b xs) : xs = [] ∨ (A = some ⟨b, 0, none⟩ ∧ OwnB w b xs) := by
  rcases h with h | ⟨h1, -, h2⟩
  · exact .inl h
  · exact .inr ⟨h1, h2⟩
theorem OwnOB.fl {w : World} {B0 b : Nat} {A : Option Addr} {xs : List Bool} (h : OwnOB w B0 A b xs) : FlB w A xs := by
  rcases h with h | ⟨rfl, -, h⟩
  · exact .inl h
  · exact h.fl
theorem OwnOB.below {w w' : World} {B0 b : Nat} {A : Option Addr} {xs : List Bool} (h : OwnOB w B0 A b xs) (hb : Below w.heap.size w w') : OwnOB w' B0 A b xs := by
  rcases h with h | ⟨h1, h2, h3⟩
  · exact .inl h
  · exact .inr ⟨h1, h2, h3.below hb⟩
theorem OwnOB.turn {w w' : World} {S : Nat → Prop} {B0 b : Nat} {A : Option Addr} {xs : List Bool} (h : OwnOB w B0 A b xs) (ht : Turn w w' S) (hs : ¬ S b) : OwnOB w' B0 A b xs := by
  rcases h with h | ⟨h1, h2, h3⟩
  · exact .inl h
  · exact .inr ⟨h1, h2, h3.turn ht hs⟩
/-- as OwnOB, for a walk -/
def OwnAB (w : World) (A : Option Addr) (b : Nat) (xs : List Bool) : Prop := xs = [] ∨ (A = some ⟨b, 0, none⟩ ∧ OwnB w b xs)
/-- the block of a list, if it has any number -/
def SBB (xs : List Bool) (B : Nat) : Nat → Prop := fun b => xs ≠ [] ∧ b = B
theorem OwnOB.notS {w : World} {B0 b : Nat} {A : Option Addr} {xs : List Bool} (h : OwnOB w B0 A b xs) {c : Nat} (hc : w.heap.size ≤ c) : ¬ SBB xs b c := by
  rintro ⟨h0, rfl⟩
  rcases h with h | ⟨-, -, h⟩
  · exact h0 h
  · have := h.1; omega
theorem OwnOB.leS {w : World} {B0 b : Nat} {A : Option Addr} {xs : List Bool} (h : OwnOB w B0 A b xs) {c : Nat} (hc : SBB xs b c) : B0 ≤ c := by
  obtain ⟨h0, rfl⟩ := hc
  rcases h with h | ⟨-, h, -⟩
  · exact absurd h h0
  · exact h
theorem OwnOB.lt {w : World} {B0 b : Nat} {A : Option Addr} {xs : List Bool} (h : OwnOB w B0 A b xs) (hx : xs ≠ []) : B0 ≤ b ∧ b < w.heap.size := by
  rcases h with h | ⟨-, h1, h2⟩
  · exact absurd h hx
  · exact ⟨h1, h2.1⟩
theorem SBB.ne {xs : List Bool} {b c : Nat} (h : c ≠ b) : ¬ SBB xs b c := fun hh => h hh.2
def halfB (xs : List Bool) (k0 k : Nat) : List Bool := (List.range xs.length).map fun j => if j < k then mk3 (k0 + j) else xs.getD j false
theorem half_lengthB (xs : List Bool) (k0 k : Nat) : (halfB xs k0 k).length = xs.length := by simp [halfB]
theorem half_atB {xs : List Bool} {k0 k j : Nat} (h : j < xs.length) : (halfB xs k0 k).getD j false = if j < k then mk3 (k0 + j) else xs.getD j false := by simp [halfB, List.getD, h]
theorem half_zeroB (xs : List Bool) (k0 : Nat) : halfB xs k0 0 = xs := by
  apply List.ext_getElem
  · simp [halfB]
  · intro j h1 h2; simp [halfB, List.getD, h2]
theorem half_allB (xs : List Bool) (k0 : Nat) : halfB xs k0 xs.length = marksB k0 xs.length := by
  apply List.ext_getElem
  · simp [halfB, marksB]
  · intro j h1 h2
    simp [halfB] at h1
    simp [halfB, marksB, h1]
theorem OwnB.mark {w : World} {B : Nat} {xs : List Bool} {k0 k : Nat} (h : OwnB w B (halfB xs k0 k)) (hk : k < xs.length) : OwnB (w.setCell ⟨B, k, none⟩ (.bool (mk3 (k0 + k)))) B (halfB xs k0 (k + 1)) := by
  refine ⟨by simpa [World.setCell] using h.1, fun j hj => ⟨?_, ?_⟩⟩
  · rw [half_lengthB] at hj
    rw [half_atB hj]
    obtain ⟨h1, -⟩ := h.2 j (by rw [half_lengthB]; exact hj)
    by_cases e : j = k
    · subst e
      rw [World.cell?_setCell_same (h := h1), if_pos (by omega)]
    · rw [World.cell?_setCell_other (h := by intro hh; simp only [Addr.mk.injEq] at hh; omega), h1, half_atB hj]
      by_cases hj2 : j < k
      · rw [if_pos hj2, if_pos (by omega)]
      · rw [if_neg hj2, if_neg (by omega)]
  · rw [half_lengthB] at hj
    rw [World.frozen?_setCell]; exact (h.2 j (by rw [half_lengthB]; exact hj)).2
/-- a list of numbers of the call's own, that may grow -/
def GrB (w : World) (B0 : Nat) (v : Value) (xs : List Bool) : Prop := w.ownsRow B0 4 1 v xs.length (xs.map (Value.bool))
theorem bool_info : (Try.prog.info? 4).map (fun i => (i.zero, i.size, i.bytes)) = some (some (.bool false), 1, 1) := by kernel_rfl
theorem GrB.nil (w : World) (B0 : Nat) : GrB w B0 (.slice none 0 0) [] := World.ownsRow_nil _ _ _ _
theorem GrB.made (w : World) (B0 cap : Nat) (cur : Array Value) (hb : B0 ≤ w.heap.size) (hm : cap ≤ maxLen) (hs : cur.size = cap) : GrB (w.alloc (.cells cur 4)) B0 (.slice (some ⟨w.heap.size, 0, none⟩) 0 cap) [] :=
  World.ownsRow_made w cur cap hb hm (by rw [hs, Nat.mul_one])
theorem GrB.next {w0 wr w1 : World} {B0 : Nat} {x : Bool} {v v' : Value} {xs : List Bool} {o : Obj} (h : GrB wr B0 v xs) (hb : Below w0.heap.size w0 wr) (hB : w0.heap.size ≤ B0)
    (ho : w1.ownsRow B0 4 1 v' (xs.length + 1) (xs.map (Value.bool) ++ [.bool x])) (hg : (wr.alloc o).grownBy w1 v.ownBlock) : GrB w1 B0 v' (xs ++ [x]) ∧ Below w0.heap.size w0 w1 := by
  refine ⟨by unfold GrB; simpa using ho, ?_⟩
  have hlt := World.ownsRow.lt h
  exact (hb.alloc hb.size o).grown hg (by have := hb.size; simp; omega) (fun k hk => by have := (hlt k hk).1; omega)
theorem GrB.of_ownsRow {w : World} {B0 : Nat} {v : Value} {xs : List Bool} (h : GrB w B0 v xs) : w.ownsRow B0 4 1 v xs.length (xs.map (Value.bool)) := h
theorem GrB.below {w w' : World} {B0 : Nat} {v : Value} {xs : List Bool} (h : GrB w B0 v xs) (hb : Below w.heap.size w w') : GrB w' B0 v xs := by
  refine ⟨h.1, ?_⟩
  rcases h.2 with hn | ⟨g, cap, cur, rfl, hbg, hgg, rest⟩
  · exact .inl hn
  · refine .inr ⟨g, cap, cur, rfl, hbg, ?_, rest⟩
    rw [hb.block g (Array.getElem?_eq_some_iff.1 hgg).1]
    exact hgg
theorem GrB.draws {w : World} {B0 : Nat} {v : Value} {xs : List Bool} (h : GrB w B0 v xs) (n : Nat) : GrB (w.drewN n) B0 v xs := h
/-- what such a list is -/
theorem GrB.own {w : World} {B0 : Nat} {v : Value} {xs : List Bool} (h : GrB w B0 v xs) : ∃ A cap b, v = .slice A xs.length cap ∧ OwnOB w B0 A b xs := by
  rcases h.2 with ⟨rfl, h0⟩ | ⟨g, cap, cur, rfl, hbg, hgg, hnc, hcm, hcs, htake⟩
  · refine ⟨none, 0, 0, by rw [h0], .inl (List.eq_nil_of_length_eq_zero h0)⟩
  · refine ⟨_, cap, g, rfl, .inr ⟨rfl, hbg, (Array.getElem?_eq_some_iff.1 hgg).1, fun j hj => ⟨?_, ?_⟩⟩⟩
    · rw [cell_of_row w g j cur 4 (0, 0) hgg]
      have h1 : cur.toList[j]? = some (Value.bool (xs.getD j false)) := by
        have h2 : (cur.toList.take (xs.length * 1))[j]? = (xs.map (Value.bool))[j]? := by rw [htake]
        rw [List.getElem?_take, if_pos (by omega)] at h2
        rw [h2]
        simp [List.getD, hj]
      simpa using h1
    · simp [World.frozen?, hgg]
theorem OwnOB.mk' {w w0 : World} {B0 b : Nat} {A : Option Addr} {xs ys : List Bool} (h : OwnOB w0 B0 A b xs) (hl : ys.length = xs.length) (hm : xs = [] ∨ OwnB w b ys) : OwnOB w B0 A b ys := by
  rcases h with h | ⟨h1, h2, -⟩
  · left; exact List.eq_nil_of_length_eq_zero (by rw [hl, h]; rfl)
  · rcases hm with h | h
    · left; exact List.eq_nil_of_length_eq_zero (by rw [hl, h]; rfl)
    · exact .inr ⟨h1, h2, h⟩

end Go.Proofs.Ytpchkedgjikpfab
