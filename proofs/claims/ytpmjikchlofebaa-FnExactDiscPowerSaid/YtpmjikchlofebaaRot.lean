/- Rotors: what is valid, how they are copied and compared. No statement is proved here. -/
import Derived.Test.YtpmjikchlofebaaVal
import Derived.Lib.SmallJoins
import Derived.Deep.Slices
import Derived.Deep.Fields
import Derived.ChangeSame
namespace Go.Proofs.Ytpmjikchlofebaa
open Go Go.RowKit

/-- the numbers of the k-th station, in a list of three numbers a station -/
def rad (s : List Nat) (k : Nat) : Nat := s.getD (k * 3) 0
def chd (s : List Nat) (k : Nat) : Nat := s.getD (k * 3 + 1) 0
def twi (s : List Nat) (k : Nat) : Nat := s.getD (k * 3 + 2) 0
def posi (x : Nat) : Bool := fin .f32 x && gtr32 x 0
def bef (s : List Nat) (hub k : Nat) : Nat := if k = 0 then hub else rad s (k - 1)
def stStep (s : List Nat) (hub tip k : Nat) : Bool := (gtr32 (rad s k) (bef s hub k) && lss32 (rad s k) tip) && (posi (chd s k) && fin .f32 (twi s k))
def sts (s : List Nat) (hub tip : Nat) : Nat → Bool
  | 0 => true
  | k + 1 => sts s hub tip k && stStep s hub tip k
theorem sts_no {s : List Nat} {hub tip k n : Nat} (h : sts s hub tip k = false) (hk : k ≤ n) : sts s hub tip n = false := by
  induction n with
  | zero => rw [show k = 0 by omega] at h; exact h
  | succ n ih =>
    by_cases e : k = n + 1
    · rw [← e]; exact h
    · simp only [sts, ih (by omega), Bool.false_and]
theorem bef_succ (s : List Nat) (hub k : Nat) : bef s hub (k + 1) = rad s k := by unfold bef; rw [if_neg (by omega)]; rfl
/-- as many blades and stations as there may be -/
def sizedR (c : Int) (n : Nat) : Prop := 1 ≤ c ∧ c ≤ 6 ∧ 2 ≤ n ∧ n ≤ 12
instance (c : Int) (n : Nat) : Decidable (sizedR c n) := by unfold sizedR; infer_instance
def validR (a l d s : List Nat) (n : Nat) (c : Int) (hub tip : Nat) : Bool :=
  validP a l d && (decide (sizedR c n) && (amount hub && (fin .f32 tip && sts s hub tip n)))
theorem validR_p {a l d s : List Nat} {n : Nat} {c : Int} {hub tip : Nat} (h : validP a l d = false) : validR a l d s n c hub tip = false := by unfold validR; rw [h]; rfl
theorem validR_z {a l d s : List Nat} {n : Nat} {c : Int} {hub tip : Nat} (h : ¬ sizedR c n) : validR a l d s n c hub tip = false := by unfold validR; rw [decide_eq_false h]; simp
theorem validR_h {a l d s : List Nat} {n : Nat} {c : Int} {hub tip : Nat} (h : amount hub = false) : validR a l d s n c hub tip = false := by unfold validR; rw [h]; simp
theorem validR_t {a l d s : List Nat} {n : Nat} {c : Int} {hub tip : Nat} (h : fin .f32 tip = false) : validR a l d s n c hub tip = false := by unfold validR; rw [h]; simp
theorem validR_s {a l d s : List Nat} {n : Nat} {c : Int} {hub tip : Nat} (h : sts s hub tip n = false) : validR a l d s n c hub tip = false := by unfold validR; rw [h]; simp
theorem validR_yes {a l d s : List Nat} {n : Nat} {c : Int} {hub tip : Nat} (hp : validP a l d = true) (hz : sizedR c n) (hh : amount hub = true) (ht : fin .f32 tip = true) : validR a l d s n c hub tip = sts s hub tip n := by
  unfold validR; rw [hp, decide_eq_true hz, hh, ht]; simp

/-- a rotor in memory -/
def Rt (w : World) (A L D S : Option Addr) (a l d s : List Nat) : Prop := Pf w A L D a l d ∧ Fl w S s
theorem Rt.below {w w' : World} {A L D S : Option Addr} {a l d s : List Nat} (h : Rt w A L D S a l d s) (hb : Below w.heap.size w w') : Rt w' A L D S a l d s :=
  ⟨h.1.below hb, h.2.below hb⟩
/-- three numbers a station; few enough to be looked at -/
def FewR (a l d s : List Nat) (n : Nat) : Prop := s.length = n * 3 ∧ a.length + l.length + d.length + n ≤ 1048576
theorem FewR.few {a l d s : List Nat} {n : Nat} (h : FewR a l d s n) : Few a l d := by unfold Few; have := h.2; omega

/-- the rotor's value -/
def rotV (A L D S : Option Addr) (a l d : List Nat) (ca cl cd n cs : Nat) (c : Int) (hub tip : Nat) : Value :=
  .agg #[.slice A a.length ca, .slice L l.length cl, .slice D d.length cd, .slice S n cs, .int .i64 c, .float .f32 hub, .float .f32 tip]

/-- a block of these cells -/
def BlkL (w : World) (B : Nat) (vs : List Value) : Prop :=
  B < w.heap.size ∧ ∀ j v, vs[j]? = some v → w.cell? ⟨B, j, none⟩ = some v ∧ w.frozen? ⟨B, j, none⟩ = false
theorem BlkL.below {w w' : World} {B : Nat} {vs : List Value} (h : BlkL w B vs) (hb : Below w.heap.size w w') : BlkL w' B vs :=
  ⟨Nat.lt_of_lt_of_le h.1 hb.size, fun j v hj => ⟨by rw [hb.cell (p := ⟨B, j, none⟩) h.1]; exact (h.2 j v hj).1, by rw [hb.frozen (p := ⟨B, j, none⟩) h.1]; exact (h.2 j v hj).2⟩⟩
theorem BlkL.alloc {w : World} {B : Nat} {vs : List Value} (h : BlkL w B vs) (o : Obj) : BlkL (w.alloc o) B vs := h.below ((Below.refl _ _).alloc (Nat.le_refl _) _)
theorem BlkL.draws {w : World} {B : Nat} {vs : List Value} (h : BlkL w B vs) (n : Nat) : BlkL (w.drewN n) B vs := h
theorem blkL_at (w : World) (vs : Array Value) (t : TypeId) {n : Nat} (hn : n = w.heap.size) : BlkL (w.alloc (.cells vs t)) n vs.toList := by
  subst hn
  refine ⟨by simp, fun j v hj => ⟨?_, ?_⟩⟩
  · rw [World.cell?_alloc_at (w := w) (hn := rfl)]; simpa using hj
  · rw [World.frozen?_alloc_at (w := w) (hn := rfl)]
theorem BlkL.other {w : World} {B : Nat} {vs : List Value} (h : BlkL w B vs) {p : Addr} (hp : p.block ≠ B) (v : Value) : BlkL (w.setCell p v) B vs :=
  ⟨by simpa [World.setCell] using h.1, fun j u hj => ⟨by rw [World.cell?_setCell_other (h := by intro hh; exact hp (by rw [hh]))]; exact (h.2 j u hj).1, by rw [World.frozen?_setCell]; exact (h.2 j u hj).2⟩⟩
theorem BlkL.set {w : World} {B i : Nat} {vs : List Value} (h : BlkL w B vs) (hi : i < vs.length) (v : Value) : BlkL (w.setCell ⟨B, i, none⟩ v) B (vs.set i v) := by
  refine ⟨by simpa [World.setCell] using h.1, fun j u hj => ⟨?_, ?_⟩⟩
  · rw [List.getElem?_set] at hj
    by_cases e : i = j
    · subst e
      rw [if_pos rfl, if_pos hi] at hj
      obtain ⟨x, hx⟩ : ∃ x, vs[i]? = some x := ⟨_, List.getElem?_eq_getElem hi⟩
      rw [World.cell?_setCell_same (h := (h.2 i x hx).1)]
      exact hj
    · rw [if_neg e] at hj
      rw [World.cell?_setCell_other (h := by intro hh; simp only [Addr.mk.injEq] at hh; omega)]
      exact (h.2 j u hj).1
  · rw [World.frozen?_setCell]
    rw [List.getElem?_set] at hj
    by_cases e : i = j
    · subst e
      obtain ⟨x, hx⟩ : ∃ x, vs[i]? = some x := ⟨_, List.getElem?_eq_getElem hi⟩
      exact (h.2 i x hx).2
    · rw [if_neg e] at hj
      exact (h.2 j u hj).2

/-- a rotor's block: seven cells -/
def Blk7 (w : World) (B : Nat) (A L D S : Option Addr) (a l d : List Nat) (ca cl cd n cs : Nat) (c : Int) (hub tip : Nat) : Prop :=
  BlkL w B [.slice A a.length ca, .slice L l.length cl, .slice D d.length cd, .slice S n cs, .int .i64 c, .float .f32 hub, .float .f32 tip]
section
variable {w w' : World} {B : Nat} {A L D S : Option Addr} {a l d : List Nat} {ca cl cd n cs : Nat} {c : Int} {hub tip : Nat}
theorem Blk7.below (h : Blk7 w B A L D S a l d ca cl cd n cs c hub tip) (hb : Below w.heap.size w w') : Blk7 w' B A L D S a l d ca cl cd n cs c hub tip := BlkL.below h hb
theorem Blk7.draws (h : Blk7 w B A L D S a l d ca cl cd n cs c hub tip) (m : Nat) : Blk7 (w.drewN m) B A L D S a l d ca cl cd n cs c hub tip := h
theorem Blk7.limbs (h : Blk7 w B A L D S a l d ca cl cd n cs c hub tip) :
    w.cell? ⟨B, 0, none⟩ = some (.slice A a.length ca) ∧ w.cell? ⟨B, 1, none⟩ = some (.slice L l.length cl) ∧ w.cell? ⟨B, 2, none⟩ = some (.slice D d.length cd) ∧
    w.cell? ⟨B, 3, none⟩ = some (.slice S n cs) ∧ w.cell? ⟨B, 4, none⟩ = some (.int .i64 c) ∧ w.cell? ⟨B, 5, none⟩ = some (.float .f32 hub) ∧ w.cell? ⟨B, 6, none⟩ = some (.float .f32 tip) :=
  ⟨(h.2 0 _ rfl).1, (h.2 1 _ rfl).1, (h.2 2 _ rfl).1, (h.2 3 _ rfl).1, (h.2 4 _ rfl).1, (h.2 5 _ rfl).1, (h.2 6 _ rfl).1⟩
theorem Blk7.blk3 (h : Blk7 w B A L D S a l d ca cl cd n cs c hub tip) : Blk3 w B (.slice A a.length ca) (.slice L l.length cl) (.slice D d.length cd) :=
  ⟨h.1, ⟨(h.2 0 _ rfl).1, (h.2 1 _ rfl).1, (h.2 2 _ rfl).1⟩, (h.2 0 _ rfl).2, (h.2 1 _ rfl).2, (h.2 2 _ rfl).2⟩
end
theorem blk7_at (w : World) (A L D S : Option Addr) (a l d : List Nat) (ca cl cd n cs : Nat) (c : Int) (hub tip : Nat) (t : TypeId) {m : Nat} (hm : m = w.heap.size) :
    Blk7 (w.alloc (.cells #[.slice A a.length ca, .slice L l.length cl, .slice D d.length cd, .slice S n cs, .int .i64 c, .float .f32 hub, .float .f32 tip] t)) m A L D S a l d ca cl cd n cs c hub tip :=
  blkL_at w _ t hm
/-- a rotor in new memory: its four lists -/
def OwnR (w : World) (B b1 b2 b3 b4 : Nat) (a l d s : List Nat) : Prop := OwnP w B b1 b2 b3 a l d ∧ b3 < b4 ∧ Own w b4 s
theorem OwnR.rt {w : World} {B b1 b2 b3 b4 : Nat} {a l d s : List Nat} (h : OwnR w B b1 b2 b3 b4 a l d s) : Rt w (some ⟨b1, 0, none⟩) (some ⟨b2, 0, none⟩) (some ⟨b3, 0, none⟩) (some ⟨b4, 0, none⟩) a l d s := ⟨h.1.pf, h.2.2.fl⟩
theorem OwnR.below {w w' : World} {B b1 b2 b3 b4 : Nat} {a l d s : List Nat} (h : OwnR w B b1 b2 b3 b4 a l d s) (hb : Below w.heap.size w w') : OwnR w' B b1 b2 b3 b4 a l d s :=
  ⟨h.1.below hb, h.2.1, h.2.2.below hb⟩
theorem OwnR.draws {w : World} {B b1 b2 b3 b4 : Nat} {a l d s : List Nat} (h : OwnR w B b1 b2 b3 b4 a l d s) (n : Nat) : OwnR (w.drewN n) B b1 b2 b3 b4 a l d s := h
section
variable {H : Type} {enc : TypeId × Value → H} {P : Program} {w : World} {base : Nat} {spare : Nat → Bool} {held : Bool}
open Go.ChangeShapes Go.WideShapes Go.Joins Go.Deep
theorem trod_int1 {t : TypeId} {k : IntKind} {fuel : Nat} {cs : List Value} {x : DataW H × List MemPlace} (ht : P.underlying t = some (.int k)) (h : DataW.trod enc P w base spare held fuel t cs = some x) :
    ∃ b, cs = [.int k b] ∧ (Lit.int k b).wf = true := by
  cases fuel with
  | zero => simp [DataW.trod] at h
  | succ n =>
    unfold DataW.trod at h
    rw [ht] at h
    split at h <;> simp_all
/-- A slice of structs of three 32-bit numbers each. -/
theorem open_rows3 {t e : TypeId} {f0 f1 f2 : Field} {c : Value} {y : DataW H × List MemPlace} {fuel : Nat} (ht : P.underlying t = some (.slice e)) (he : P.underlying e = some (.struct #[f0, f1, f2])) (hone : oneCellFields P #[f0, f1, f2] = true)
    (hc : P.cellsOf e = 3) (hf : ∀ (j : Nat) (f : Field), #[f0, f1, f2][j]? = some f → P.underlying f.type = some (.float .f32)) (h : DataW.trod enc P w base spare held fuel t [c] = some y) :
    ∃ (A : Option Addr) (n cap : Nat) (xs : List Nat), c = .slice A n cap ∧ n ≤ maxLen ∧ xs.length = n * 3 ∧ Fl w A xs := by
  rcases DataW.trod_slice ht h with ⟨h0, -⟩ | ⟨a, len, cap, elems, rest, n, -, hcs, -, hb, hl, hm, hlen, hel, -, -⟩
  · simp at h0
    exact ⟨none, 0, 0, [], h0, Nat.zero_le _, rfl, .inl rfl⟩
  · simp at hcs
    have each : ∀ q, q < len * 3 → ∃ b, w.cell? (a.add q) = some (.float .f32 b) := by
      intro q hq
      have h1 := hel (q / 3) (by omega)
      rw [List.getElem?_eq_getElem (by omega), hc, Option.bind_eq_some_iff] at h1
      obtain ⟨cs', hcs', hy⟩ := h1
      obtain ⟨_, hcl, hat⟩ := World.cells?_some hcs'
      obtain ⟨xs, m, -, -, -, hxl, hg⟩ := DataW.trod_struct he hy
      have hj : q % 3 < 3 := Nat.mod_lt _ (by decide)
      obtain ⟨f, hfj⟩ : ∃ f, #[f0, f1, f2][q % 3]? = some f := ⟨_, Array.getElem?_eq_getElem (by simpa using hj)⟩
      obtain ⟨ho, hk⟩ := hone_of hone _ f hfj
      have h2 := hg _ f hfj
      rw [ho, hk, List.getElem?_eq_getElem (by rw [hxl]; simpa using hj)] at h2
      have hv : cs'[q % 3]? = some (cs'[q % 3]'(by omega)) := List.getElem?_eq_getElem (by omega)
      have hone' : (cs'.drop (q % 3)).take 1 = [cs'[q % 3]'(by omega)] := by rw [List.drop_eq_getElem_cons (by omega)]; rfl
      rw [hone'] at h2
      obtain ⟨b, hb', -⟩ := trod_float (hf _ f hfj) h2
      have hcell := hat (q % 3) hj
      rw [Go.Deep.add_add, show q / 3 * 3 + q % 3 = q by omega, hv] at hcell
      simp only [List.cons.injEq, and_true] at hb'
      exact ⟨b, by rw [hcell, hb']⟩
    refine ⟨some a, len, cap, (List.range (len * 3)).map fun i => match w.cell? (a.add i) with | some (.float _ b) => b | _ => 0, hcs, by omega, by simp, ?_⟩
    by_cases hz : len * 3 = 0
    · left; simp [hz]
    · right
      obtain ⟨b0, hc0⟩ := each 0 (by omega)
      have ha : a.add 0 = a := rfl
      rw [ha] at hc0
      obtain ⟨hlt, hsp⟩ := cell_lt hc0
      refine ⟨a.block, a.off, ?_, hlt, fun k hk => ?_⟩
      · cases a; simp_all
      · simp at hk
        obtain ⟨bk, hck⟩ := each k hk
        have e1 : a.add k = ⟨a.block, a.off + k, none⟩ := by
          unfold Addr.add
          split
          · rename_i hk0; subst hk0; cases a; simp_all
          · rfl
        rw [e1] at hck
        rw [hck]
        simp [List.getD, hk, e1, hck]
/-- A struct of one struct of three cells and four cells more. -/
theorem open_agg31111 {r : Reach} {b0 : Nat} {t : TypeId} {f0 f1 f2 f3 f4 : Field} {v : Value} {d : DataW H} {p : List MemPlace} (hs : P.underlying t = some (.struct #[f0, f1, f2, f3, f4]))
    (hone : ([(f0.offset, P.cellsOf f0.type), (f1.offset, P.cellsOf f1.type), (f2.offset, P.cellsOf f2.type), (f3.offset, P.cellsOf f3.type), (f4.offset, P.cellsOf f4.type)] == [(0, 3), (3, 1), (4, 1), (5, 1), (6, 1)]) = true) (hC : P.cellsOf t = 7)
    (hv : Value.okWide P w r b0 t v) (h : DataW.Trod enc P w base spare held t v d p) :
    ∃ (v0 v1 v2 v3 v4 v5 v6 : Value) (y0 y1 y2 y3 y4 : DataW H × List MemPlace) (n : Nat), v = .agg #[v0, v1, v2, v3, v4, v5, v6] ∧
      DataW.trod enc P w base spare held n f0.type [v0, v1, v2] = some y0 ∧ DataW.trod enc P w base spare held n f1.type [v3] = some y1 ∧ DataW.trod enc P w base spare held n f2.type [v4] = some y2 ∧ DataW.trod enc P w base spare held n f3.type [v5] = some y3 ∧ DataW.trod enc P w base spare held n f4.type [v6] = some y4 := by
  have hone := eq_of_beq hone
  simp only [List.cons.injEq, Prod.mk.injEq, and_true] at hone
  obtain ⟨⟨o0, k0⟩, ⟨o1, k1⟩, ⟨o2, k2⟩, ⟨o3, k3⟩, ⟨o4, k4⟩⟩ := hone
  obtain ⟨cs, rfl, hsz⟩ := okWide_struct hs hv
  obtain ⟨l⟩ := cs
  match l, hsz.trans hC with
  | [c0, c1, c2, c3, c4, c5, c6], _ =>
    obtain ⟨fuel, hf⟩ := h
    obtain ⟨xs, n, _, hx, _, hlen, hg⟩ := DataW.trod_struct hs hf
    match xs, hlen with
    | [y0, y1, y2, y3, y4], _ =>
      exact ⟨c0, c1, c2, c3, c4, c5, c6, y0, y1, y2, y3, y4, n, rfl, by simpa [Value.cells, o0, k0] using hg 0 f0 rfl, by simpa [Value.cells, o1, k1] using hg 1 f1 rfl, by simpa [Value.cells, o2, k2] using hg 2 f2 rfl, by simpa [Value.cells, o3, k3] using hg 3 f3 rfl, by simpa [Value.cells, o4, k4] using hg 4 f4 rfl⟩
/-- The cells of a struct of three one-cell fields. -/
theorem open_cells3 {t : TypeId} {f0 f1 f2 : Field} {n : Nat} {c0 c1 c2 : Value} {y : DataW H × List MemPlace} (hs : P.underlying t = some (.struct #[f0, f1, f2])) (hone : oneCellFields P #[f0, f1, f2] = true)
    (h : DataW.trod enc P w base spare held n t [c0, c1, c2] = some y) :
    ∃ (m : Nat) (y0 y1 y2 : DataW H × List MemPlace), DataW.trod enc P w base spare held m f0.type [c0] = some y0 ∧ DataW.trod enc P w base spare held m f1.type [c1] = some y1 ∧ DataW.trod enc P w base spare held m f2.type [c2] = some y2 := by
  obtain ⟨xs, m, _, hx, _, hlen, hg⟩ := DataW.trod_struct hs h
  obtain ⟨o0, k0⟩ := hone_of hone 0 f0 rfl
  obtain ⟨o1, k1⟩ := hone_of hone 1 f1 rfl
  obtain ⟨o2, k2⟩ := hone_of hone 2 f2 rfl
  match xs, hlen with
  | [y0, y1, y2], _ => exact ⟨m, y0, y1, y2, by simpa [o0, k0] using hg 0 f0 rfl, by simpa [o1, k1] using hg 1 f1 rfl, by simpa [o2, k2] using hg 2 f2 rfl⟩
end
end Go.Proofs.Ytpmjikchlofebaa
