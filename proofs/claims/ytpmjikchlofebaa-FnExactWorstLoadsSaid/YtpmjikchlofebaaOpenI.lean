/- Lists of int64 that came in. No statement is proved here. -/
import Derived.Test.YtpmjikchlofebaaMarkI
import Derived.Test.YtpmjikchlofebaaRot
namespace Go.Proofs.Ytpmjikchlofebaa
open Go Go.RowKit
theorem OwnI.o {w : World} {B b : Nat} {xs : List Int} (h : OwnI w b xs) (hB : B ≤ b) : OwnOI w B (some ⟨b, 0, none⟩) b xs := .inr ⟨rfl, hB, h⟩
theorem OwnOI.mk' {w w0 : World} {B0 b : Nat} {A : Option Addr} {xs ys : List Int} (h : OwnOI w0 B0 A b xs) (hl : ys.length = xs.length) (hm : xs = [] ∨ OwnI w b ys) : OwnOI w B0 A b ys := by
  rcases h with h | ⟨h1, h2, -⟩
  · left; exact List.eq_nil_of_length_eq_zero (by rw [hl, h]; rfl)
  · rcases hm with h | h
    · left; exact List.eq_nil_of_length_eq_zero (by rw [hl, h]; rfl)
    · exact .inr ⟨h1, h2, h⟩
theorem wf_all {xs : List Int} (h : ∀ x ∈ xs, (Lit.int .i64 x).wf = true) : ∀ k, k < xs.length → (Lit.int .i64 (xs.getD k 0)).wf = true := fun k hk => h _ (by rw [List.getD_eq_getElem?_getD, List.getElem?_eq_getElem hk]; exact List.getElem_mem hk)
section
variable {H : Type} {enc : TypeId × Value → H} {P : Program} {w : World} {base : Nat} {spare : Nat → Bool} {held : Bool}
open Go.ChangeShapes Go.WideShapes
/-- A slice of int64 that came in. -/
theorem open_i64s {t e : TypeId} {A : Option Addr} {len cap : Nat} {d : DataW H} {ps : List MemPlace} (ht : P.underlying t = some (.slice e)) (he : P.underlying e = some (.int .i64)) (hc : P.cellsOf e = 1)
    (h : DataW.Trod enc P w base spare held t (.slice A len cap) d ps) :
    ∃ xs : List Int, len = xs.length ∧ xs.length ≤ maxLen ∧ FlI w A xs ∧ ∀ x ∈ xs, (Lit.int .i64 x).wf = true := by
  obtain ⟨fuel, hf⟩ := h
  rcases DataW.trod_slice ht hf with ⟨h0, -⟩ | ⟨a, len', cap', elems, rest, n, -, hcs, -, hb, hl, hm, hlen, hel, -, -⟩
  · simp [Value.cells] at h0
    obtain ⟨rfl, rfl, rfl⟩ := h0
    exact ⟨[], rfl, Nat.zero_le _, .inl rfl, by simp⟩
  · simp [Value.cells] at hcs
    obtain ⟨rfl, rfl, rfl⟩ := hcs
    have each : ∀ i, i < len → ∃ b, w.cell? (a.add i) = some (.int .i64 b) ∧ (Lit.int .i64 b).wf = true := by
      intro i hi
      have h1 := hel i hi
      rw [List.getElem?_eq_getElem (by omega), hc, Nat.mul_one, Option.bind_eq_some_iff] at h1
      obtain ⟨cs', hcs', hy⟩ := h1
      obtain ⟨b, rfl, hw⟩ := trod_int1 he hy
      have := (World.cells?_some hcs').2.2 0 (by decide)
      exact ⟨b, by simpa [Addr.add] using this, hw⟩
    refine ⟨(List.range len).map fun i => match w.cell? (a.add i) with | some (.int _ b) => b | _ => 0, by simp, by simp; omega, ?_, ?_⟩
    · by_cases hz : len = 0
      · left; simp [hz]
      · right
        obtain ⟨b0, hc0, -⟩ := each 0 (by omega)
        have ha : a.add 0 = a := rfl
        rw [ha] at hc0
        obtain ⟨hlt, hsp⟩ := cell_lt hc0
        refine ⟨a.block, a.off, ?_, hlt, fun k hk => ?_⟩
        · cases a; simp_all
        · simp at hk
          obtain ⟨bk, hck, -⟩ := each k hk
          have e1 : a.add k = ⟨a.block, a.off + k, none⟩ := by
            unfold Addr.add
            split
            · rename_i hk0; subst hk0; cases a; simp_all
            · rfl
          rw [e1] at hck
          rw [hck]
          simp [List.getD, hk, e1, hck]
    · intro x hx
      simp only [List.mem_map, List.mem_range] at hx
      obtain ⟨i, hi, rfl⟩ := hx
      obtain ⟨b, hb', hlt⟩ := each i hi
      simp only [hb']; exact hlt
end
end Go.Proofs.Ytpmjikchlofebaa
