/- Rotors that came in, with the words of their numbers. No statement is proved here. -/
import Derived.Test.YtiiiigldpbomkaaRot
namespace Go.Proofs.Ytiiiigldpbomkaa
open Go Go.RowKit
section
variable {H : Type} {enc : TypeId × Value → H} {P : Program} {w : World} {base : Nat} {spare : Nat → Bool} {held : Bool}
open Go.ChangeShapes Go.WideShapes Go.Joins Go.Deep
/-- A slice of structs of three 32-bit numbers each. -/
theorem open_rows3W {t e : TypeId} {f0 f1 f2 : Field} {c : Value} {y : DataW H × List MemPlace} {fuel : Nat} (ht : P.underlying t = some (.slice e)) (he : P.underlying e = some (.struct #[f0, f1, f2])) (hone : oneCellFields P #[f0, f1, f2] = true)
    (hc : P.cellsOf e = 3) (hf : ∀ (j : Nat) (f : Field), #[f0, f1, f2][j]? = some f → P.underlying f.type = some (.float .f32)) (h : DataW.trod enc P w base spare held fuel t [c] = some y) :
    ∃ (A : Option Addr) (n cap : Nat) (xs : List Nat), c = .slice A n cap ∧ n ≤ maxLen ∧ xs.length = n * 3 ∧ Fl w A xs ∧ ∀ x ∈ xs, x < words .f32 := by
  rcases DataW.trod_slice ht h with ⟨h0, -⟩ | ⟨a, len, cap, elems, rest, n, -, hcs, -, hb, hl, hm, hlen, hel, -, -⟩
  · simp at h0
    exact ⟨none, 0, 0, [], h0, Nat.zero_le _, rfl, .inl rfl, by simp⟩
  · simp at hcs
    have each : ∀ q, q < len * 3 → ∃ b, w.cell? (a.add q) = some (.float .f32 b) ∧ b < words .f32 := by
      intro q hq
      have h1 := hel (q / 3) (by omega)
      rw [List.getElem?_eq_getElem (by omega), hc, Option.bind_eq_some_iff] at h1
      obtain ⟨cs', hcs', hy⟩ := h1
      obtain ⟨_, hcl, hat⟩ := World.cells?_some hcs'
      obtain ⟨xs, m, -, -, -, hxl, hg⟩ := DataW.trod_struct he hy
      have hj : q % 3 < 3 := Nat.mod_lt _ (by decide)
      obtain ⟨f, hfj⟩ : ∃ f, #[f0, f1, f2][q % 3]? = some f := ⟨_, Array.getElem?_eq_getElem (by simpa using hj)⟩
      obtain ⟨ho, hk⟩ := hone_of hone _ f hfj
      have h2 := hg _ f hfj
      rw [ho, hk, List.getElem?_eq_getElem (by rw [hxl]; simpa using hj)] at h2
      have hv : cs'[q % 3]? = some (cs'[q % 3]'(by omega)) := List.getElem?_eq_getElem (by omega)
      have hone' : (cs'.drop (q % 3)).take 1 = [cs'[q % 3]'(by omega)] := by rw [List.drop_eq_getElem_cons (by omega)]; rfl
      rw [hone'] at h2
      obtain ⟨b, hb', hwf⟩ := trod_float (hf _ f hfj) h2
      have hcell := hat (q % 3) hj
      rw [Go.Deep.add_add, show q / 3 * 3 + q % 3 = q by omega, hv] at hcell
      simp only [List.cons.injEq, and_true] at hb'
      exact ⟨b, by rw [hcell, hb'], lt_of_wf hwf⟩
    refine ⟨some a, len, cap, (List.range (len * 3)).map fun i => match w.cell? (a.add i) with | some (.float _ b) => b | _ => 0, hcs, by omega, by simp, ?_, ?_⟩
    · by_cases hz : len * 3 = 0
      · left; simp [hz]
      · right
        obtain ⟨b0, hc0, -⟩ := each 0 (by omega)
        have ha : a.add 0 = a := rfl
        rw [ha] at hc0
        obtain ⟨hlt, hsp⟩ := cell_lt hc0
        refine ⟨a.block, a.off, ?_, hlt, fun k hk => ?_⟩
        · cases a; simp_all
        · simp at hk
          obtain ⟨bk, hck, -⟩ := each k hk
          have e1 : a.add k = ⟨a.block, a.off + k, none⟩ := by
            unfold Addr.add
            split
            · rename_i hk0; subst hk0; cases a; simp_all
            · rfl
          rw [e1] at hck
          rw [hck]
          simp [List.getD, hk, e1, hck]
    · intro x hx
      simp only [List.mem_map, List.mem_range] at hx
      obtain ⟨i, hi, rfl⟩ := hx
      obtain ⟨b, hb', hlt⟩ := each i hi
      simp only [hb']; exact hlt
end
end Go.Proofs.Ytiiiigldpbomkaa
