/- Plants and drives that came in: the words of their numbers. No statement is proved here. -/
import Derived.Test.YtiiiigldpbomkaaDrv
import Derived.OpenShut
namespace Go.Proofs.Ytiiiigldpbomkaa
open Go Go.RowKit
section
variable {H : Type} {enc : TypeId × Value → H} {P : Program} {w : World} {base : Nat} {spare : Nat → Bool} {held : Bool}
open Go.ChangeShapes Go.WideShapes Go.Joins Go.Deep
theorem cells_plant {t : TypeId} {f0 f1 f2 f3 f4 f5 f6 f7 : Field} {n : Nat} {c0 c1 c2 c3 c4 c5 c6 c7 : Value} {y : DataW H × List MemPlace} (hs : P.underlying t = some (.struct #[f0, f1, f2, f3, f4, f5, f6, f7])) (hone : oneCellFields P #[f0, f1, f2, f3, f4, f5, f6, f7] = true)
    (hf : ∀ (j : Nat) (f : Field), #[f0, f1, f2, f3, f4, f5, f6, f7][j]? = some f → P.underlying f.type = some (.float .f32)) (h : DataW.trod enc P w base spare held n t [c0, c1, c2, c3, c4, c5, c6, c7] = some y) :
    ∃ p0 p1 p2 p3 p4 p5 p6 p7 : Nat, [c0, c1, c2, c3, c4, c5, c6, c7] = [.float .f32 p0, .float .f32 p1, .float .f32 p2, .float .f32 p3, .float .f32 p4, .float .f32 p5, .float .f32 p6, .float .f32 p7] ∧ (Lit.float .f32 p0).wf = true ∧ (Lit.float .f32 p1).wf = true ∧ (Lit.float .f32 p2).wf = true ∧ (Lit.float .f32 p3).wf = true ∧ (Lit.float .f32 p4).wf = true ∧ (Lit.float .f32 p5).wf = true ∧ (Lit.float .f32 p6).wf = true ∧ (Lit.float .f32 p7).wf = true := by
  obtain ⟨xs, m, _, hx, _, hlen, hg⟩ := DataW.trod_struct hs h
  obtain ⟨o0, k0⟩ := hone_of hone 0 f0 rfl
  obtain ⟨o1, k1⟩ := hone_of hone 1 f1 rfl
  obtain ⟨o2, k2⟩ := hone_of hone 2 f2 rfl
  obtain ⟨o3, k3⟩ := hone_of hone 3 f3 rfl
  obtain ⟨o4, k4⟩ := hone_of hone 4 f4 rfl
  obtain ⟨o5, k5⟩ := hone_of hone 5 f5 rfl
  obtain ⟨o6, k6⟩ := hone_of hone 6 f6 rfl
  obtain ⟨o7, k7⟩ := hone_of hone 7 f7 rfl
  match xs, hlen with
  | [y0, y1, y2, y3, y4, y5, y6, y7], _ =>
    obtain ⟨b0, e0, w0⟩ := trod_float (hf 0 f0 rfl) (show DataW.trod enc P w base spare held m f0.type [c0] = some y0 by simpa [o0, k0] using hg 0 f0 rfl)
    cases e0
    obtain ⟨b1, e1, w1⟩ := trod_float (hf 1 f1 rfl) (show DataW.trod enc P w base spare held m f1.type [c1] = some y1 by simpa [o1, k1] using hg 1 f1 rfl)
    cases e1
    obtain ⟨b2, e2, w2⟩ := trod_float (hf 2 f2 rfl) (show DataW.trod enc P w base spare held m f2.type [c2] = some y2 by simpa [o2, k2] using hg 2 f2 rfl)
    cases e2
    obtain ⟨b3, e3, w3⟩ := trod_float (hf 3 f3 rfl) (show DataW.trod enc P w base spare held m f3.type [c3] = some y3 by simpa [o3, k3] using hg 3 f3 rfl)
    cases e3
    obtain ⟨b4, e4, w4⟩ := trod_float (hf 4 f4 rfl) (show DataW.trod enc P w base spare held m f4.type [c4] = some y4 by simpa [o4, k4] using hg 4 f4 rfl)
    cases e4
    obtain ⟨b5, e5, w5⟩ := trod_float (hf 5 f5 rfl) (show DataW.trod enc P w base spare held m f5.type [c5] = some y5 by simpa [o5, k5] using hg 5 f5 rfl)
    cases e5
    obtain ⟨b6, e6, w6⟩ := trod_float (hf 6 f6 rfl) (show DataW.trod enc P w base spare held m f6.type [c6] = some y6 by simpa [o6, k6] using hg 6 f6 rfl)
    cases e6
    obtain ⟨b7, e7, w7⟩ := trod_float (hf 7 f7 rfl) (show DataW.trod enc P w base spare held m f7.type [c7] = some y7 by simpa [o7, k7] using hg 7 f7 rfl)
    cases e7
    exact ⟨b0, b1, b2, b3, b4, b5, b6, b7, rfl, w0, w1, w2, w3, w4, w5, w6, w7⟩
theorem open_plant {r : Reach} {b0 : Nat} {t : TypeId} {f0 f1 f2 f3 f4 f5 f6 f7 : Field} {v : Value} {d : DataW H} {p : List MemPlace} (hs : P.underlying t = some (.struct #[f0, f1, f2, f3, f4, f5, f6, f7])) (hone : oneCellFields P #[f0, f1, f2, f3, f4, f5, f6, f7] = true)
    (hf : ∀ (j : Nat) (f : Field), #[f0, f1, f2, f3, f4, f5, f6, f7][j]? = some f → P.underlying f.type = some (.float .f32)) (hC : P.cellsOf t = 8)
    (hv : Value.okWide P w r b0 t v) (h : DataW.Trod enc P w base spare held t v d p) :
    ∃ p0 p1 p2 p3 p4 p5 p6 p7 : Nat, v = .agg #[.float .f32 p0, .float .f32 p1, .float .f32 p2, .float .f32 p3, .float .f32 p4, .float .f32 p5, .float .f32 p6, .float .f32 p7] ∧ (Lit.float .f32 p0).wf = true ∧ (Lit.float .f32 p1).wf = true ∧ (Lit.float .f32 p2).wf = true ∧ (Lit.float .f32 p3).wf = true ∧ (Lit.float .f32 p4).wf = true ∧ (Lit.float .f32 p5).wf = true ∧ (Lit.float .f32 p6).wf = true ∧ (Lit.float .f32 p7).wf = true := by
  obtain ⟨cs, rfl, hsz⟩ := okWide_struct hs hv
  obtain ⟨l⟩ := cs
  match l, hsz.trans hC with
  | [c0, c1, c2, c3, c4, c5, c6, c7], _ =>
    obtain ⟨fuel, hg⟩ := h
    obtain ⟨p0, p1, p2, p3, p4, p5, p6, p7, e, ww⟩ := cells_plant hs hone hf hg
    cases e
    exact ⟨p0, p1, p2, p3, p4, p5, p6, p7, rfl, ww⟩
theorem open_drive {r : Reach} {b0 : Nat} {t : TypeId} {f0 f1 f2 f3 f4 f5 f6 f7 g0 g1 g2 g3 g4 : Field} {v : Value} {d : DataW H} {p : List MemPlace} (ht : P.underlying t = some (.struct #[g0, g1, g2, g3, g4]))
    (hcells : ([(g0.offset, P.cellsOf g0.type), (g1.offset, P.cellsOf g1.type), (g2.offset, P.cellsOf g2.type), (g3.offset, P.cellsOf g3.type), (g4.offset, P.cellsOf g4.type)] == [(0, 8), (8, 1), (9, 1), (10, 1), (11, 1)]) = true) (hC : P.cellsOf t = 12)
    (hs : P.underlying g0.type = some (.struct #[f0, f1, f2, f3, f4, f5, f6, f7])) (hone : oneCellFields P #[f0, f1, f2, f3, f4, f5, f6, f7] = true) (hf : ∀ (j : Nat) (f : Field), #[f0, f1, f2, f3, f4, f5, f6, f7][j]? = some f → P.underlying f.type = some (.float .f32))
    (hi : P.underlying g1.type = some (.int .i64)) (hf2 : P.underlying g2.type = some (.float .f32)) (hf3 : P.underlying g3.type = some (.float .f32)) (hf4 : P.underlying g4.type = some (.float .f32))
    (hv : Value.okWide P w r b0 t v) (h : DataW.Trod enc P w base spare held t v d p) :
    ∃ (p0 p1 p2 p3 p4 p5 p6 p7 : Nat) (st : Int) (sp pi en : Nat), v = .agg #[.float .f32 p0, .float .f32 p1, .float .f32 p2, .float .f32 p3, .float .f32 p4, .float .f32 p5, .float .f32 p6, .float .f32 p7, .int .i64 st, .float .f32 sp, .float .f32 pi, .float .f32 en] ∧ ((Lit.float .f32 p0).wf = true ∧ (Lit.float .f32 p1).wf = true ∧ (Lit.float .f32 p2).wf = true ∧ (Lit.float .f32 p3).wf = true ∧ (Lit.float .f32 p4).wf = true ∧ (Lit.float .f32 p5).wf = true ∧ (Lit.float .f32 p6).wf = true ∧ (Lit.float .f32 p7).wf = true) ∧ (Lit.int .i64 st).wf = true ∧ (Lit.float .f32 sp).wf = true ∧ (Lit.float .f32 pi).wf = true ∧ (Lit.float .f32 en).wf = true := by
  have hcells := eq_of_beq hcells
  simp only [List.cons.injEq, Prod.mk.injEq, and_true] at hcells
  obtain ⟨⟨o0, k0⟩, ⟨o1, k1⟩, ⟨o2, k2⟩, ⟨o3, k3⟩, ⟨o4, k4⟩⟩ := hcells
  obtain ⟨cs, rfl, hsz⟩ := okWide_struct ht hv
  obtain ⟨l⟩ := cs
  match l, hsz.trans hC with
  | [c0, c1, c2, c3, c4, c5, c6, c7, c8, c9, c10, c11], _ =>
    obtain ⟨fuel, hg0⟩ := h
    obtain ⟨xs, n, _, hx, _, hlen, hg⟩ := DataW.trod_struct ht hg0
    match xs, hlen with
    | [y0, y1, y2, y3, y4], _ =>
      obtain ⟨p0, p1, p2, p3, p4, p5, p6, p7, e, ww⟩ := cells_plant hs hone hf (show DataW.trod enc P w base spare held n g0.type [c0, c1, c2, c3, c4, c5, c6, c7] = some y0 by simpa [Value.cells, o0, k0] using hg 0 g0 rfl)
      cases e
      obtain ⟨st, e1, w1⟩ := trod_int1 hi (show DataW.trod enc P w base spare held n g1.type [c8] = some y1 by simpa [Value.cells, o1, k1] using hg 1 g1 rfl)
      cases e1
      obtain ⟨sp, e2, w2⟩ := trod_float hf2 (show DataW.trod enc P w base spare held n g2.type [c9] = some y2 by simpa [Value.cells, o2, k2] using hg 2 g2 rfl)
      cases e2
      obtain ⟨pi, e3, w3⟩ := trod_float hf3 (show DataW.trod enc P w base spare held n g3.type [c10] = some y3 by simpa [Value.cells, o3, k3] using hg 3 g3 rfl)
      cases e3
      obtain ⟨en, e4, w4⟩ := trod_float hf4 (show DataW.trod enc P w base spare held n g4.type [c11] = some y4 by simpa [Value.cells, o4, k4] using hg 4 g4 rfl)
      cases e4
      exact ⟨p0, p1, p2, p3, p4, p5, p6, p7, st, sp, pi, en, rfl, ww, w1, w2, w3, w4⟩
end
end Go.Proofs.Ytiiiigldpbomkaa
