/- A desk that came in, parted into its cells. No statement is proved here. -/
import Derived.Test.YtiiiigldpbomkaaOpenD
import Derived.Test.YtiiiigldpbomkaaOpenF
namespace Go.Proofs.Ytiiiigldpbomkaa
open Go Go.RowKit
section
variable {H : Type} {enc : TypeId × Value → H} {P : Program} {w : World} {base : Nat} {spare : Nat → Bool} {held : Bool}
open Go.ChangeShapes Go.WideShapes
theorem open_desk {r : Reach} {b0 : Nat} {t : TypeId} {g0 g1 g2 g3 : Field} {v : Value} {d : DataW H} {p : List MemPlace} (hs : P.underlying t = some (.struct #[g0, g1, g2, g3])) (hcells : ([(g0.offset, P.cellsOf g0.type), (g1.offset, P.cellsOf g1.type), (g2.offset, P.cellsOf g2.type), (g3.offset, P.cellsOf g3.type)] == [(0, 7), (7, 4), (11, 12), (23, 5)]) = true) (hC : P.cellsOf t = 28)
    (hv : Value.okWide P w r b0 t v) (h : DataW.Trod enc P w base spare held t v d p) :
    ∃ (c0 c1 c2 c3 c4 c5 c6 c7 c8 c9 c10 c11 c12 c13 c14 c15 c16 c17 c18 c19 c20 c21 c22 c23 c24 c25 c26 c27 : Value) (m : Nat) (y0 y1 y2 y3 : DataW H × List MemPlace), v = .agg #[c0, c1, c2, c3, c4, c5, c6, c7, c8, c9, c10, c11, c12, c13, c14, c15, c16, c17, c18, c19, c20, c21, c22, c23, c24, c25, c26, c27] ∧ DataW.trod enc P w base spare held m g0.type [c0, c1, c2, c3, c4, c5, c6] = some y0 ∧ DataW.trod enc P w base spare held m g1.type [c7, c8, c9, c10] = some y1 ∧ DataW.trod enc P w base spare held m g2.type [c11, c12, c13, c14, c15, c16, c17, c18, c19, c20, c21, c22] = some y2 ∧ DataW.trod enc P w base spare held m g3.type [c23, c24, c25, c26, c27] = some y3 := by
  have hcells := eq_of_beq hcells
  simp only [List.cons.injEq, Prod.mk.injEq, and_true] at hcells
  obtain ⟨⟨o0, k0⟩, ⟨o1, k1⟩, ⟨o2, k2⟩, ⟨o3, k3⟩⟩ := hcells
  obtain ⟨cs, rfl, hsz⟩ := okWide_struct hs hv
  obtain ⟨l⟩ := cs
  match l, hsz.trans hC with
  | [c0, c1, c2, c3, c4, c5, c6, c7, c8, c9, c10, c11, c12, c13, c14, c15, c16, c17, c18, c19, c20, c21, c22, c23, c24, c25, c26, c27], _ =>
    obtain ⟨fuel, hf⟩ := h
    obtain ⟨xs, m, _, hx, _, hlen, hg⟩ := DataW.trod_struct hs hf
    match xs, hlen with
    | [y0, y1, y2, y3], _ => exact ⟨c0, c1, c2, c3, c4, c5, c6, c7, c8, c9, c10, c11, c12, c13, c14, c15, c16, c17, c18, c19, c20, c21, c22, c23, c24, c25, c26, c27, m, y0, y1, y2, y3, rfl, by simpa [Value.cells, o0, k0] using hg 0 g0 rfl, by simpa [Value.cells, o1, k1] using hg 1 g1 rfl, by simpa [Value.cells, o2, k2] using hg 2 g2 rfl, by simpa [Value.cells, o3, k3] using hg 3 g3 rfl⟩
theorem part_rotor {t : TypeId} {g0 g1 g2 g3 g4 : Field} {fuel : Nat} {c0 c1 c2 c3 c4 c5 c6 : Value} {y : DataW H × List MemPlace} (hs : P.underlying t = some (.struct #[g0, g1, g2, g3, g4])) (hcells : ([(g0.offset, P.cellsOf g0.type), (g1.offset, P.cellsOf g1.type), (g2.offset, P.cellsOf g2.type), (g3.offset, P.cellsOf g3.type), (g4.offset, P.cellsOf g4.type)] == [(0, 3), (3, 1), (4, 1), (5, 1), (6, 1)]) = true)
    (h : DataW.trod enc P w base spare held fuel t [c0, c1, c2, c3, c4, c5, c6] = some y) :
    ∃ (m : Nat) (y0 y1 y2 y3 y4 : DataW H × List MemPlace), DataW.trod enc P w base spare held m g0.type [c0, c1, c2] = some y0 ∧ DataW.trod enc P w base spare held m g1.type [c3] = some y1 ∧ DataW.trod enc P w base spare held m g2.type [c4] = some y2 ∧ DataW.trod enc P w base spare held m g3.type [c5] = some y3 ∧ DataW.trod enc P w base spare held m g4.type [c6] = some y4 := by
  have hcells := eq_of_beq hcells
  simp only [List.cons.injEq, Prod.mk.injEq, and_true] at hcells
  obtain ⟨⟨o0, k0⟩, ⟨o1, k1⟩, ⟨o2, k2⟩, ⟨o3, k3⟩, ⟨o4, k4⟩⟩ := hcells
  obtain ⟨xs, m, _, hx, _, hlen, hg⟩ := DataW.trod_struct hs h
  match xs, hlen with
  | [y0, y1, y2, y3, y4], _ => exact ⟨m, y0, y1, y2, y3, y4, by simpa [Value.cells, o0, k0] using hg 0 g0 rfl, by simpa [Value.cells, o1, k1] using hg 1 g1 rfl, by simpa [Value.cells, o2, k2] using hg 2 g2 rfl, by simpa [Value.cells, o3, k3] using hg 3 g3 rfl, by simpa [Value.cells, o4, k4] using hg 4 g4 rfl⟩
theorem part_air {t : TypeId} {g0 g1 g2 g3 : Field} {fuel : Nat} {c0 c1 c2 c3 : Value} {y : DataW H × List MemPlace} (hs : P.underlying t = some (.struct #[g0, g1, g2, g3])) (hcells : ([(g0.offset, P.cellsOf g0.type), (g1.offset, P.cellsOf g1.type), (g2.offset, P.cellsOf g2.type), (g3.offset, P.cellsOf g3.type)] == [(0, 1), (1, 1), (2, 1), (3, 1)]) = true)
    (h : DataW.trod enc P w base spare held fuel t [c0, c1, c2, c3] = some y) :
    ∃ (m : Nat) (y0 y1 y2 y3 : DataW H × List MemPlace), DataW.trod enc P w base spare held m g0.type [c0] = some y0 ∧ DataW.trod enc P w base spare held m g1.type [c1] = some y1 ∧ DataW.trod enc P w base spare held m g2.type [c2] = some y2 ∧ DataW.trod enc P w base spare held m g3.type [c3] = some y3 := by
  have hcells := eq_of_beq hcells
  simp only [List.cons.injEq, Prod.mk.injEq, and_true] at hcells
  obtain ⟨⟨o0, k0⟩, ⟨o1, k1⟩, ⟨o2, k2⟩, ⟨o3, k3⟩⟩ := hcells
  obtain ⟨xs, m, _, hx, _, hlen, hg⟩ := DataW.trod_struct hs h
  match xs, hlen with
  | [y0, y1, y2, y3], _ => exact ⟨m, y0, y1, y2, y3, by simpa [Value.cells, o0, k0] using hg 0 g0 rfl, by simpa [Value.cells, o1, k1] using hg 1 g1 rfl, by simpa [Value.cells, o2, k2] using hg 2 g2 rfl, by simpa [Value.cells, o3, k3] using hg 3 g3 rfl⟩
theorem part_drive {t : TypeId} {g0 g1 g2 g3 g4 : Field} {fuel : Nat} {c0 c1 c2 c3 c4 c5 c6 c7 c8 c9 c10 c11 : Value} {y : DataW H × List MemPlace} (hs : P.underlying t = some (.struct #[g0, g1, g2, g3, g4])) (hcells : ([(g0.offset, P.cellsOf g0.type), (g1.offset, P.cellsOf g1.type), (g2.offset, P.cellsOf g2.type), (g3.offset, P.cellsOf g3.type), (g4.offset, P.cellsOf g4.type)] == [(0, 8), (8, 1), (9, 1), (10, 1), (11, 1)]) = true)
    (h : DataW.trod enc P w base spare held fuel t [c0, c1, c2, c3, c4, c5, c6, c7, c8, c9, c10, c11] = some y) :
    ∃ (m : Nat) (y0 y1 y2 y3 y4 : DataW H × List MemPlace), DataW.trod enc P w base spare held m g0.type [c0, c1, c2, c3, c4, c5, c6, c7] = some y0 ∧ DataW.trod enc P w base spare held m g1.type [c8] = some y1 ∧ DataW.trod enc P w base spare held m g2.type [c9] = some y2 ∧ DataW.trod enc P w base spare held m g3.type [c10] = some y3 ∧ DataW.trod enc P w base spare held m g4.type [c11] = some y4 := by
  have hcells := eq_of_beq hcells
  simp only [List.cons.injEq, Prod.mk.injEq, and_true] at hcells
  obtain ⟨⟨o0, k0⟩, ⟨o1, k1⟩, ⟨o2, k2⟩, ⟨o3, k3⟩, ⟨o4, k4⟩⟩ := hcells
  obtain ⟨xs, m, _, hx, _, hlen, hg⟩ := DataW.trod_struct hs h
  match xs, hlen with
  | [y0, y1, y2, y3, y4], _ => exact ⟨m, y0, y1, y2, y3, y4, by simpa [Value.cells, o0, k0] using hg 0 g0 rfl, by simpa [Value.cells, o1, k1] using hg 1 g1 rfl, by simpa [Value.cells, o2, k2] using hg 2 g2 rfl, by simpa [Value.cells, o3, k3] using hg 3 g3 rfl, by simpa [Value.cells, o4, k4] using hg 4 g4 rfl⟩
theorem part_farm {t : TypeId} {g0 g1 g2 g3 g4 : Field} {fuel : Nat} {c0 c1 c2 c3 c4 : Value} {y : DataW H × List MemPlace} (hs : P.underlying t = some (.struct #[g0, g1, g2, g3, g4])) (hcells : ([(g0.offset, P.cellsOf g0.type), (g1.offset, P.cellsOf g1.type), (g2.offset, P.cellsOf g2.type), (g3.offset, P.cellsOf g3.type), (g4.offset, P.cellsOf g4.type)] == [(0, 1), (1, 1), (2, 1), (3, 1), (4, 1)]) = true)
    (h : DataW.trod enc P w base spare held fuel t [c0, c1, c2, c3, c4] = some y) :
    ∃ (m : Nat) (y0 y1 y2 y3 y4 : DataW H × List MemPlace), DataW.trod enc P w base spare held m g0.type [c0] = some y0 ∧ DataW.trod enc P w base spare held m g1.type [c1] = some y1 ∧ DataW.trod enc P w base spare held m g2.type [c2] = some y2 ∧ DataW.trod enc P w base spare held m g3.type [c3] = some y3 ∧ DataW.trod enc P w base spare held m g4.type [c4] = some y4 := by
  have hcells := eq_of_beq hcells
  simp only [List.cons.injEq, Prod.mk.injEq, and_true] at hcells
  obtain ⟨⟨o0, k0⟩, ⟨o1, k1⟩, ⟨o2, k2⟩, ⟨o3, k3⟩, ⟨o4, k4⟩⟩ := hcells
  obtain ⟨xs, m, _, hx, _, hlen, hg⟩ := DataW.trod_struct hs h
  match xs, hlen with
  | [y0, y1, y2, y3, y4], _ => exact ⟨m, y0, y1, y2, y3, y4, by simpa [Value.cells, o0, k0] using hg 0 g0 rfl, by simpa [Value.cells, o1, k1] using hg 1 g1 rfl, by simpa [Value.cells, o2, k2] using hg 2 g2 rfl, by simpa [Value.cells, o3, k3] using hg 3 g3 rfl, by simpa [Value.cells, o4, k4] using hg 4 g4 rfl⟩
end
end Go.Proofs.Ytiiiigldpbomkaa
