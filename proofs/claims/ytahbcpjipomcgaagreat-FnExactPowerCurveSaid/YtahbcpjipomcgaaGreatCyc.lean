/- Lists of cycles: what holds them, and how the laws copy and compare them. No statement is proved here. -/
import Derived.Test.YtahbcpjipomcgaaGreatRot
namespace Go.Proofs.YtahbcpjipomcgaaGreat
open Go Go.RowKit
/-- what a cycle of a list has -/
def loN (xs : List (Nat × Nat × Bool)) (k : Nat) : Nat := (xs.getD k (0, 0, false)).1
def hiN (xs : List (Nat × Nat × Bool)) (k : Nat) : Nat := (xs.getD k (0, 0, false)).2.1
def whB (xs : List (Nat × Nat × Bool)) (k : Nat) : Bool := (xs.getD k (0, 0, false)).2.2
/-- a slice that reads as these cycles -/
def FlC (w : World) (A : Option Addr) (xs : List (Nat × Nat × Bool)) : Prop :=
  xs = [] ∨ ∃ b off, A = some ⟨b, off, none⟩ ∧ b < w.heap.size ∧ ∀ k, k < xs.length → w.cell? ⟨b, off + k * 3, none⟩ = some (.float .f32 (loN xs k)) ∧ w.cell? ⟨b, off + k * 3 + 1, none⟩ = some (.float .f32 (hiN xs k)) ∧ w.cell? ⟨b, off + k * 3 + 2, none⟩ = some (.bool (whB xs k))
theorem FlC.below {w w' : World} {A : Option Addr} {xs : List (Nat × Nat × Bool)} (h : FlC w A xs) (hb : Below w.heap.size w w') : FlC w' A xs := by
  rcases h with h | ⟨b, off, e, hlt, hc⟩
  · exact .inl h
  · exact .inr ⟨b, off, e, Nat.lt_of_lt_of_le hlt hb.size, fun k hk => by rw [hb.cell (p := ⟨b, off + k * 3, none⟩) hlt, hb.cell (p := ⟨b, off + k * 3 + 1, none⟩) hlt, hb.cell (p := ⟨b, off + k * 3 + 2, none⟩) hlt]; exact hc k hk⟩
theorem FlC.draws {w : World} {A : Option Addr} {xs : List (Nat × Nat × Bool)} (h : FlC w A xs) (n : Nat) : FlC (w.drewN n) A xs := h
theorem FlC.at_ {w : World} {A : Option Addr} {xs : List (Nat × Nat × Bool)} (h : FlC w A xs) {k : Nat} (hk : k < xs.length) :
    ∃ b off, A = some ⟨b, off, none⟩ ∧ b < w.heap.size ∧ w.cell? ⟨b, off + k * 3, none⟩ = some (.float .f32 (loN xs k)) ∧ w.cell? ⟨b, off + k * 3 + 1, none⟩ = some (.float .f32 (hiN xs k)) ∧ w.cell? ⟨b, off + k * 3 + 2, none⟩ = some (.bool (whB xs k)) := by
  rcases h with h | ⟨b, off, e, hlt, hc⟩
  · subst h; simp at hk
  · exact ⟨b, off, e, hlt, hc k hk⟩
/-- a block of the call's own that holds these cycles -/
def OwnC (w : World) (B : Nat) (xs : List (Nat × Nat × Bool)) : Prop :=
  B < w.heap.size ∧ ∀ j, j < xs.length → (w.cell? ⟨B, j * 3, none⟩ = some (.float .f32 (loN xs j)) ∧ w.cell? ⟨B, j * 3 + 1, none⟩ = some (.float .f32 (hiN xs j)) ∧ w.cell? ⟨B, j * 3 + 2, none⟩ = some (.bool (whB xs j))) ∧ ∀ i, i < 3 → w.frozen? ⟨B, j * 3 + i, none⟩ = false
theorem OwnC.fl {w : World} {B : Nat} {xs : List (Nat × Nat × Bool)} (h : OwnC w B xs) : FlC w (some ⟨B, 0, none⟩) xs :=
  .inr ⟨B, 0, rfl, h.1, fun k hk => by simp only [Nat.zero_add]; exact (h.2 k hk).1⟩
theorem OwnC.below {w w' : World} {B : Nat} {xs : List (Nat × Nat × Bool)} (h : OwnC w B xs) (hb : Below w.heap.size w w') : OwnC w' B xs :=
  ⟨Nat.lt_of_lt_of_le h.1 hb.size, fun j hj => ⟨by rw [hb.cell (p := ⟨B, j * 3, none⟩) h.1, hb.cell (p := ⟨B, j * 3 + 1, none⟩) h.1, hb.cell (p := ⟨B, j * 3 + 2, none⟩) h.1]; exact (h.2 j hj).1, fun i hi => by rw [hb.frozen (p := ⟨B, j * 3 + i, none⟩) h.1]; exact (h.2 j hj).2 i hi⟩⟩
/-- a new block of n cycles, of which k are written -/
def FlNewC (w wr : World) (B n k : Nat) (xs : List (Nat × Nat × Bool)) : Prop :=
  Below w.heap.size w wr ∧ w.heap.size ≤ B ∧ B < wr.heap.size ∧
  ∀ j, j < n → (wr.cell? ⟨B, j * 3, none⟩ = some (.float .f32 (if j < k then loN xs j else 0)) ∧ wr.cell? ⟨B, j * 3 + 1, none⟩ = some (.float .f32 (if j < k then hiN xs j else 0)) ∧ wr.cell? ⟨B, j * 3 + 2, none⟩ = some (.bool (if j < k then whB xs j else false))) ∧ ∀ i, i < 3 → wr.frozen? ⟨B, j * 3 + i, none⟩ = false
theorem FlNewC.start (w : World) (n : Nat) (E : TypeId) (xs : List (Nat × Nat × Bool)) : FlNewC w (w.alloc (.cells (madeCells #[.float .f32 0, .float .f32 0, .bool false] (n * 3)) E)) w.heap.size n 0 xs := by
  refine ⟨(Below.refl _ _).alloc (Nat.le_refl _) _, Nat.le_refl _, by simp, fun j hj => ⟨⟨?_, ?_, ?_⟩, fun i hi => ?_⟩⟩
  · rw [World.cell?_alloc_at (w := w) (hn := rfl), if_neg (Nat.not_lt_zero j)]
    have h1 : j * 3 < n * 3 := by omega
    have h2 : j * 3 % 3 = 0 := by omega
    simp [madeCells, h1, h2]
  · rw [World.cell?_alloc_at (w := w) (hn := rfl), if_neg (Nat.not_lt_zero j)]
    have h1 : j * 3 + 1 < n * 3 := by omega
    have h2 : (j * 3 + 1) % 3 = 1 := by omega
    simp [madeCells, h1, h2]
  · rw [World.cell?_alloc_at (w := w) (hn := rfl), if_neg (Nat.not_lt_zero j)]
    have h1 : j * 3 + 2 < n * 3 := by omega
    have h2 : (j * 3 + 2) % 3 = 2 := by omega
    simp [madeCells, h1, h2]
  · rw [World.frozen?_alloc_at (w := w) (hn := rfl)]
theorem FlNewC.step {w wr : World} {B n k : Nat} {xs : List (Nat × Nat × Bool)} (h : FlNewC w wr B n k xs) :
    FlNewC w (((wr.setCell ⟨B, k * 3, none⟩ (.float .f32 (loN xs k))).setCell ⟨B, k * 3 + 1, none⟩ (.float .f32 (hiN xs k))).setCell ⟨B, k * 3 + 2, none⟩ (.bool (whB xs k))) B n (k + 1) xs := by
  obtain ⟨h1, h2, h3, h4⟩ := h
  refine ⟨((h1.setCell (p := ⟨B, k * 3, none⟩) h2 _).setCell (p := ⟨B, k * 3 + 1, none⟩) h2 _).setCell (p := ⟨B, k * 3 + 2, none⟩) h2 _, h2, by simpa [World.setCell] using h3, fun j hj => ⟨⟨?_, ?_, ?_⟩, fun i hi => ?_⟩⟩
  · by_cases e : j = k
    · subst e
      rw [World.cell?_setCell_other (h := by intro hh; simp only [Addr.mk.injEq] at hh; omega), World.cell?_setCell_other (h := by intro hh; simp only [Addr.mk.injEq] at hh; omega), World.cell?_setCell_same (h := (h4 j hj).1.1), if_pos (by omega)]
    · rw [World.cell?_setCell_other (h := by intro hh; simp only [Addr.mk.injEq] at hh; omega), World.cell?_setCell_other (h := by intro hh; simp only [Addr.mk.injEq] at hh; omega), World.cell?_setCell_other (h := by intro hh; simp only [Addr.mk.injEq] at hh; omega), (h4 j hj).1.1]
      by_cases hj2 : j < k
      · rw [if_pos hj2, if_pos (by omega)]
      · rw [if_neg hj2, if_neg (by omega)]
  · by_cases e : j = k
    · subst e
      have hc := (h4 j hj).1.2.1
      rw [← World.cell?_setCell_other (w := wr) (a := ⟨B, j * 3, none⟩) (v := .float .f32 (loN xs j)) (h := by intro hh; simp only [Addr.mk.injEq] at hh; omega)] at hc
      rw [World.cell?_setCell_other (h := by intro hh; simp only [Addr.mk.injEq] at hh; omega), World.cell?_setCell_same (h := hc), if_pos (by omega)]
    · rw [World.cell?_setCell_other (h := by intro hh; simp only [Addr.mk.injEq] at hh; omega), World.cell?_setCell_other (h := by intro hh; simp only [Addr.mk.injEq] at hh; omega), World.cell?_setCell_other (h := by intro hh; simp only [Addr.mk.injEq] at hh; omega), (h4 j hj).1.2.1]
      by_cases hj2 : j < k
      · rw [if_pos hj2, if_pos (by omega)]
      · rw [if_neg hj2, if_neg (by omega)]
  · by_cases e : j = k
    · subst e
      have hc := (h4 j hj).1.2.2
      rw [← World.cell?_setCell_other (w := wr) (a := ⟨B, j * 3, none⟩) (v := .float .f32 (loN xs j)) (h := by intro hh; simp only [Addr.mk.injEq] at hh; omega)] at hc
      rw [← World.cell?_setCell_other (a := ⟨B, j * 3 + 1, none⟩) (v := .float .f32 (hiN xs j)) (h := by intro hh; simp only [Addr.mk.injEq] at hh; omega)] at hc
      rw [World.cell?_setCell_same (h := hc), if_pos (by omega)]
    · rw [World.cell?_setCell_other (h := by intro hh; simp only [Addr.mk.injEq] at hh; omega), World.cell?_setCell_other (h := by intro hh; simp only [Addr.mk.injEq] at hh; omega), World.cell?_setCell_other (h := by intro hh; simp only [Addr.mk.injEq] at hh; omega), (h4 j hj).1.2.2]
      by_cases hj2 : j < k
      · rw [if_pos hj2, if_pos (by omega)]
      · rw [if_neg hj2, if_neg (by omega)]
  · simp only [World.frozen?_setCell]; exact (h4 j hj).2 i hi
theorem FlNewC.below' {w wr w' : World} {B n k : Nat} {xs : List (Nat × Nat × Bool)} (h : FlNewC w wr B n k xs) (hb : Below wr.heap.size wr w') : FlNewC w w' B n k xs := by
  obtain ⟨h1, h2, h3, h4⟩ := h
  refine ⟨h1.trans (hb.mono h1.size), h2, Nat.lt_of_lt_of_le h3 hb.size, fun j hj => ⟨?_, fun i hi => ?_⟩⟩
  · rw [hb.cell (p := ⟨B, j * 3, none⟩) h3, hb.cell (p := ⟨B, j * 3 + 1, none⟩) h3, hb.cell (p := ⟨B, j * 3 + 2, none⟩) h3]; exact (h4 j hj).1
  · rw [hb.frozen (p := ⟨B, j * 3 + i, none⟩) h3]; exact (h4 j hj).2 i hi
theorem FlNewC.own {w wr : World} {B k : Nat} {xs : List (Nat × Nat × Bool)} (h : FlNewC w wr B xs.length k xs) (hk : xs.length ≤ k) : OwnC wr B xs := by
  obtain ⟨h1, h2, h3, h4⟩ := h
  refine ⟨h3, fun j hj => ⟨?_, (h4 j hj).2⟩⟩
  have := (h4 j hj).1
  simpa only [if_pos (show j < k by omega)] using this
section
variable {H : Type} {enc : TypeId × Value → H} {P : Program} {w : World} {base : Nat} {spare : Nat → Bool} {held : Bool}
open Go.ChangeShapes Go.WideShapes Go.Joins Go.Deep
theorem trod_bool1 {t : TypeId} {fuel : Nat} {cs : List Value} {x : DataW H × List MemPlace} (ht : P.underlying t = some .bool) (h : DataW.trod enc P w base spare held fuel t cs = some x) :
    ∃ b, cs = [.bool b] := by
  cases fuel with
  | zero => simp [DataW.trod] at h
  | succ n =>
    unfold DataW.trod at h
    rw [ht] at h
    split at h <;> simp_all
/-- A slice of structs of two 32-bit numbers and a bool each. -/
theorem open_cycles {t e : TypeId} {f0 f1 f2 : Field} {A : Option Addr} {len cap : Nat} {d : DataW H} {ps : List MemPlace} (ht : P.underlying t = some (.slice e)) (he : P.underlying e = some (.struct #[f0, f1, f2])) (hone : oneCellFields P #[f0, f1, f2] = true)
    (hc : P.cellsOf e = 3) (hf0 : P.underlying f0.type = some (.float .f32)) (hf1 : P.underlying f1.type = some (.float .f32)) (hf2 : P.underlying f2.type = some .bool) (h : DataW.Trod enc P w base spare held t (.slice A len cap) d ps) :
    ∃ xs : List (Nat × Nat × Bool), len = xs.length ∧ xs.length ≤ maxLen ∧ FlC w A xs ∧ ∀ k, k < xs.length → loN xs k < words .f32 ∧ hiN xs k < words .f32 := by
  obtain ⟨fuel, hf⟩ := h
  rcases DataW.trod_slice ht hf with ⟨h0, -⟩ | ⟨a, len', cap', elems, rest, n, -, hcs, -, hb, hl, hm, hlen, hel, -, -⟩
  · simp [Value.cells] at h0
    obtain ⟨rfl, rfl, rfl⟩ := h0
    exact ⟨[], rfl, Nat.zero_le _, .inl rfl, by simp⟩
  · simp [Value.cells] at hcs
    obtain ⟨rfl, rfl, rfl⟩ := hcs
    have each : ∀ q, q < len → ∃ x y z, w.cell? (a.add (q * 3)) = some (.float .f32 x) ∧ w.cell? (a.add (q * 3 + 1)) = some (.float .f32 y) ∧ w.cell? (a.add (q * 3 + 2)) = some (.bool z) ∧ x < words .f32 ∧ y < words .f32 := by
      intro q hq
      have h1 := hel q hq
      rw [List.getElem?_eq_getElem (by omega), hc, Option.bind_eq_some_iff] at h1
      obtain ⟨cs', hcs', hy⟩ := h1
      obtain ⟨_, hcl, hat⟩ := World.cells?_some hcs'
      match cs', hcl with
      | [c0, c1, c2], _ =>
        obtain ⟨xs, m, -, hx, -, hxl, hg⟩ := DataW.trod_struct he hy
        obtain ⟨o0, k0⟩ := hone_of hone 0 f0 rfl
        obtain ⟨o1, k1⟩ := hone_of hone 1 f1 rfl
        obtain ⟨o2, k2⟩ := hone_of hone 2 f2 rfl
        match xs, hxl with
        | [y0, y1, y2], _ =>
          have g0 : DataW.trod enc P w base spare held m f0.type [c0] = some y0 := by simpa [o0, k0] using hg 0 f0 rfl
          have g1 : DataW.trod enc P w base spare held m f1.type [c1] = some y1 := by simpa [o1, k1] using hg 1 f1 rfl
          have g2 : DataW.trod enc P w base spare held m f2.type [c2] = some y2 := by simpa [o2, k2] using hg 2 f2 rfl
          obtain ⟨x, ex, wx⟩ := trod_float hf0 g0
          obtain ⟨y, ey, wy⟩ := trod_float hf1 g1
          obtain ⟨z, ez⟩ := trod_bool1 hf2 g2
          cases ex; cases ey; cases ez
          have a0 := hat 0 (by decide)
          have a1 := hat 1 (by decide)
          have a2 := hat 2 (by decide)
          rw [Go.Deep.add_add] at a0 a1 a2
          exact ⟨x, y, z, a0, a1, a2, lt_of_wf wx, lt_of_wf wy⟩
    refine ⟨(List.range len).map fun q => ((match w.cell? (a.add (q * 3)) with | some (.float _ b) => b | _ => 0), (match w.cell? (a.add (q * 3 + 1)) with | some (.float _ b) => b | _ => 0), (match w.cell? (a.add (q * 3 + 2)) with | some (.bool b) => b | _ => false)), by simp, by simp; omega, ?_, ?_⟩
    · by_cases hz : len = 0
      · left; simp [hz]
      · right
        obtain ⟨x0, y0, z0, hc0, -⟩ := each 0 (by omega)
        have ha : a.add (0 * 3) = a := rfl
        rw [ha] at hc0
        obtain ⟨hlt, hsp⟩ := cell_lt hc0
        have e1 : ∀ k, a.add k = ⟨a.block, a.off + k, none⟩ := by
          intro k
          unfold Addr.add
          split
          · rename_i hk0; subst hk0; cases a; simp_all
          · rfl
        refine ⟨a.block, a.off, ?_, hlt, fun k hk => ?_⟩
        · cases a; simp_all
        · simp at hk
          obtain ⟨x, y, z, hx, hy, hz, -, -⟩ := each k hk
          rw [e1] at hx hy hz
          have q1 : a.off + k * 3 + 1 = a.off + (k * 3 + 1) := by omega
          have q2 : a.off + k * 3 + 2 = a.off + (k * 3 + 2) := by omega
          rw [q1, q2, hx, hy, hz]
          refine ⟨?_, ?_, ?_⟩
          · simp [loN, List.getD, hk, e1, hx]
          · simp [hiN, List.getD, hk, e1, hy]
          · simp [whB, List.getD, hk, e1, hz]
    · intro k hk
      simp at hk
      obtain ⟨x, y, z, hx, hy, hz, wx, wy⟩ := each k hk
      refine ⟨?_, ?_⟩
      · simp [loN, List.getD, hk, hx]; exact wx
      · simp [hiN, List.getD, hk, hy]; exact wy
end
end Go.Proofs.YtahbcpjipomcgaaGreat
