/- Lists of lists of 32-bit numbers that came in. No statement is proved here. -/
import Derived.Test.YtpmjikchlofebaaProf
namespace Go.Proofs.Ytpmjikchlofebaa
open Go Go.RowKit
/-- a list of lists: each one's place, capacity, numbers -/
def FlL (w : World) (A : Option Addr) (xs : List (Option Addr × Nat × List Nat)) : Prop :=
  xs = [] ∨ ∃ b off, A = some ⟨b, off, none⟩ ∧ b < w.heap.size ∧ ∀ k, k < xs.length → w.cell? ⟨b, off + k, none⟩ = some (.slice (xs.getD k (none, 0, [])).1 (xs.getD k (none, 0, [])).2.2.length (xs.getD k (none, 0, [])).2.1) ∧ Fl w (xs.getD k (none, 0, [])).1 (xs.getD k (none, 0, [])).2.2
theorem FlL.below {w w' : World} {A : Option Addr} {xs : List (Option Addr × Nat × List Nat)} (h : FlL w A xs) (hb : Below w.heap.size w w') : FlL w' A xs := by
  rcases h with h | ⟨b, off, e, hlt, hc⟩
  · exact .inl h
  · exact .inr ⟨b, off, e, Nat.lt_of_lt_of_le hlt hb.size, fun k hk => ⟨by rw [hb.cell (p := ⟨b, off + k, none⟩) hlt]; exact (hc k hk).1, (hc k hk).2.below hb⟩⟩
theorem FlL.at_ {w : World} {A : Option Addr} {xs : List (Option Addr × Nat × List Nat)} (h : FlL w A xs) {k : Nat} (hk : k < xs.length) :
    ∃ b off, A = some ⟨b, off, none⟩ ∧ b < w.heap.size ∧ w.cell? ⟨b, off + k, none⟩ = some (.slice (xs.getD k (none, 0, [])).1 (xs.getD k (none, 0, [])).2.2.length (xs.getD k (none, 0, [])).2.1) ∧ Fl w (xs.getD k (none, 0, [])).1 (xs.getD k (none, 0, [])).2.2 := by
  rcases h with h | ⟨b, off, e, hlt, hc⟩
  · subst h; simp at hk
  · exact ⟨b, off, e, hlt, (hc k hk).1, (hc k hk).2⟩
section
variable {H : Type} {enc : TypeId × Value → H} {P : Program} {w : World} {base : Nat} {spare : Nat → Bool} {held : Bool}
theorem open_f32ss {t e f : TypeId} {A : Option Addr} {len cap : Nat} {d : DataW H} {ps : List MemPlace} (ht : P.underlying t = some (.slice e)) (he : P.underlying e = some (.slice f)) (hf : P.underlying f = some (.float .f32)) (hc : P.cellsOf e = 1) (hcf : P.cellsOf f = 1)
    (h : DataW.Trod enc P w base spare held t (.slice A len cap) d ps) :
    ∃ xs : List (Option Addr × Nat × List Nat), len = xs.length ∧ xs.length ≤ maxLen ∧ FlL w A xs ∧ ∀ x ∈ xs, x.2.2.length ≤ maxLen := by
  obtain ⟨fuel, hfu⟩ := h
  rcases DataW.trod_slice ht hfu with ⟨h0, -⟩ | ⟨a, len', cap', elems, rest, n, -, hcs, -, hb, hl, hm, hlen, hel, -, -⟩
  · simp [Value.cells] at h0
    obtain ⟨rfl, rfl, rfl⟩ := h0
    exact ⟨[], rfl, Nat.zero_le _, .inl rfl, by simp⟩
  · simp [Value.cells] at hcs
    obtain ⟨rfl, rfl, rfl⟩ := hcs
    have each : ∀ i, ∃ r : Option Addr × Nat × List Nat, i < len → w.cell? (a.add i) = some (.slice r.1 r.2.2.length r.2.1) ∧ Fl w r.1 r.2.2 ∧ r.2.2.length ≤ maxLen := by
      intro i
      by_cases hi : i < len
      · have h1 := hel i hi
        rw [List.getElem?_eq_getElem (by omega), hc, Nat.mul_one, Option.bind_eq_some_iff] at h1
        obtain ⟨cs', hcs', hy⟩ := h1
        have hs : ∃ c, cs' = [c] := by
          rcases DataW.trod_slice he hy with ⟨h0, -⟩ | ⟨_, _, _, _, _, _, -, hq, -⟩
          · exact ⟨_, h0⟩
          · exact ⟨_, hq⟩
        obtain ⟨c, rfl⟩ := hs
        obtain ⟨A', cap2, xs, rfl, hm2, hfl⟩ := open_f32sT he hf hcf hy
        have := (World.cells?_some hcs').2.2 0 (by decide)
        exact ⟨(A', cap2, xs), fun _ => ⟨by simpa [Addr.add] using this, hfl, hm2⟩⟩
      · exact ⟨(none, 0, []), fun h => absurd h hi⟩
    refine ⟨(List.range len).map fun i => (each i).choose, by simp, by simp; omega, ?_, ?_⟩
    · by_cases hz : len = 0
      · left; simp [hz]
      · right
        have hc0 := ((each 0).choose_spec (by omega)).1
        have ha : a.add 0 = a := rfl
        obtain ⟨hlt, hsp⟩ := cell_lt hc0
        rw [ha] at hlt hsp
        clear hc0
        refine ⟨a.block, a.off, ?_, hlt, fun k hk => ?_⟩
        · cases a; simp_all
        · simp at hk
          have hck := (each k).choose_spec hk
          have e1 : a.add k = ⟨a.block, a.off + k, none⟩ := by
            unfold Addr.add
            split
            · rename_i hk0; subst hk0; cases a; simp_all
            · rfl
          have e2 : ((List.range len).map fun i => (each i).choose).getD k (none, 0, []) = (each k).choose := by simp [List.getD, hk]
          rw [e2, ← e1]
          exact ⟨hck.1, hck.2.1⟩
    · intro x hx
      simp only [List.mem_map, List.mem_range] at hx
      obtain ⟨i, hi, rfl⟩ := hx
      exact ((each i).choose_spec hi).2.2
end
end Go.Proofs.Ytpmjikchlofebaa
