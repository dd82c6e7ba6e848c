/- Lists that are made in one drawn region lie apart. No statement is proved here. -/
import Derived.Test.YtknabmknboffgaaGreatDoorInv7
import Derived.Test.YtknabmknboffgaaGreatDoorMarkR
import Derived.Test.YtknabmknboffgaaGreatDoorPcs
namespace Go.Proofs.YtknabmknboffgaaGreatDoor
open Go Go.RowKit
/-- the block of a list that is not empty -/
def blkS : Value → Option Nat
  | .slice (some p) (_ + 1) _ => some p.block
  | _ => none
/-- the same, of a value or of the first one of several -/
def blkV : Value → Option Nat
  | .tuple a => blkS (a.getD 0 undef)
  | v => blkS v
theorem put_blk {a : Act} {k i g : Nat} {v : Value} (h : blkV ((a.put (some k) v).tmps.getD i undef) = some g) : (i = k ∧ blkV v = some g) ∨ (i ≠ k ∧ blkV (a.tmps.getD i undef) = some g) := by
  by_cases e : i = k
  · subst e
    refine .inl ⟨rfl, ?_⟩
    unfold Act.put at h
    simp only [Array.getD_eq_getD_getElem?] at h
    rw [Array.getElem?_setIfInBounds, if_pos rfl] at h
    split at h
    · exact h
    · simp [blkV, blkS, undef] at h
  · rw [put_getD a k i v e] at h
    exact .inr ⟨e, h⟩
/-- slots of several groups: the lists of different groups lie apart, all within the heap -/
def ApG (G : List (Nat × Nat)) (a : Act) (w : World) : Prop :=
  ∀ p, p ∈ G → ∀ g, blkV (a.tmps.getD p.1 undef) = some g → g < w.heap.size ∧ ∀ q, q ∈ G → q.2 ≠ p.2 → blkV (a.tmps.getD q.1 undef) ≠ some g
def funG (G : List (Nat × Nat)) : Bool := G.all fun p => G.all fun q => p.1 != q.1 || p.2 == q.2
theorem funG_of {G : List (Nat × Nat)} (h : funG G = true) {p q : Nat × Nat} (hp : p ∈ G) (hq : q ∈ G) (e : p.1 = q.1) : p.2 = q.2 := by
  have h1 := List.all_eq_true.1 (List.all_eq_true.1 h p hp) q hq
  simpa [e] using h1
theorem ApG.grow {G : List (Nat × Nat)} {a : Act} {w w' : World} (h : ApG G a w) (hs : w.heap.size ≤ w'.heap.size) : ApG G a w' :=
  fun p hp g hg => ⟨Nat.lt_of_lt_of_le (h p hp g hg).1 hs, (h p hp g hg).2⟩
theorem ApG.other {G : List (Nat × Nat)} {a : Act} {w : World} {k : Nat} (h : ApG G a w) (hk : G.all (fun p => p.1 != k) = true) (v : Value) : ApG G (a.put (some k) v) w := by
  have e : ∀ p, p ∈ G → p.1 ≠ k := fun p hp => by simpa using List.all_eq_true.1 hk p hp
  intro p hp g hg
  rw [put_getD a k p.1 v (e p hp)] at hg
  refine ⟨(h p hp g hg).1, fun q hq hne => ?_⟩
  rw [put_getD a k q.1 v (e q hq)]
  exact (h p hp g hg).2 q hq hne
theorem ApG.skip {G : List (Nat × Nat)} {a : Act} {w : World} (h : ApG G a w) (v : Value) : ApG G (a.put Option.none v) w := h
theorem ApG.fresh {G : List (Nat × Nat)} {a : Act} {w w' : World} {k : Nat} {v : Value} (h : ApG G a w) (hG : funG G = true) (hs : w.heap.size ≤ w'.heap.size) (hv : ∀ g, blkV v = some g → w.heap.size ≤ g ∧ g < w'.heap.size) : ApG G (a.put (some k) v) w' := by
  intro p hp g hg
  rcases put_blk hg with ⟨e, hg'⟩ | ⟨e, hg'⟩
  · refine ⟨(hv g hg').2, fun q hq hne hq' => ?_⟩
    rcases put_blk hq' with ⟨e2, -⟩ | ⟨-, ho⟩
    · exact hne (funG_of hG hq hp (e2.trans e.symm))
    · have h1 := (h q hq g ho).1
      have h2 := (hv g hg').1
      omega
  · refine ⟨Nat.lt_of_lt_of_le (h p hp g hg').1 hs, fun q hq hne hq' => ?_⟩
    rcases put_blk hq' with ⟨-, ho⟩ | ⟨-, ho⟩
    · have h1 := (h p hp g hg').1
      have h2 := (hv g ho).1
      omega
    · exact (h p hp g hg').2 q hq hne ho
theorem ApG.copy {G : List (Nat × Nat)} {a : Act} {w : World} {k i grp : Nat} {v : Value} (h : ApG G a w) (hG : funG G = true) (hk : (k, grp) ∈ G) (hi : (i, grp) ∈ G) (hv : ∀ g, blkV v = some g → blkV (a.tmps.getD i undef) = some g) : ApG G (a.put (some k) v) w := by
  intro p hp g hg
  rcases put_blk hg with ⟨e, hg'⟩ | ⟨e, hg'⟩
  · have ep : p.2 = grp := funG_of hG hp hk e
    have h1 := h _ hi g (hv g hg')
    refine ⟨h1.1, fun q hq hne hq' => ?_⟩
    rcases put_blk hq' with ⟨e2, -⟩ | ⟨-, ho⟩
    · exact hne ((funG_of hG hq hk e2).trans ep.symm)
    · exact h1.2 q hq (by rw [ep] at hne; exact hne) ho
  · refine ⟨(h p hp g hg').1, fun q hq hne hq' => ?_⟩
    rcases put_blk hq' with ⟨e2, ho⟩ | ⟨-, ho⟩
    · have eq : q.2 = grp := funG_of hG hq hk e2
      exact (h p hp g hg').2 _ hi (by rw [eq] at hne; exact hne) (hv g ho)
    · exact (h p hp g hg').2 q hq hne ho
theorem ApG.start {G : List (Nat × Nat)} {a : Act} {w : World} (h : G.all (fun p => (blkV (a.tmps.getD p.1 undef)).isNone) = true) : ApG G a w := by
  intro p hp g hg
  have h1 := List.all_eq_true.1 h p hp
  simp only [hg] at h1
  cases h1
theorem ApG.ne {G : List (Nat × Nat)} {a : Act} {w : World} (h : ApG G a w) {i j gi gj : Nat} (hi : (i, gi) ∈ G) (hj : (j, gj) ∈ G) (hne : gj ≠ gi) {v u : Value} (hv : a.tmps[i]?.getD undef = v) (hu : a.tmps[j]?.getD undef = u) : ∀ g, blkV v = some g → blkV u ≠ some g := by
  intro g hg
  have h1 := (h _ hi g (by rw [Array.getD_eq_getD_getElem?, hv]; exact hg)).2 _ hj hne
  rwa [Array.getD_eq_getD_getElem?, hu] at h1
theorem OwnO.blk {w : World} {B0 b c g : Nat} {A : Option Addr} {xs : List Nat} (h : OwnO w B0 A b xs) (hg : blkS (.slice A xs.length c) = some g) : B0 ≤ g ∧ g < w.heap.size := by
  rcases h with h | ⟨h1, h2, h3⟩
  · subst h
    cases A <;> simp [blkS] at hg
  · subst h1
    cases xs with
    | nil => simp [blkS] at hg
    | cons x xs =>
      simp only [List.length_cons, blkS, Option.some.injEq] at hg
      subst hg
      exact ⟨h2, h3.1⟩
theorem OwnO.blkOf {w : World} {B0 b c : Nat} {A : Option Addr} {xs : List Nat} (h : OwnO w B0 A b xs) (hx : xs ≠ []) : blkV (.slice A xs.length c) = some b := by
  rcases h with h | ⟨h1, h2, h3⟩
  · exact absurd h hx
  · subst h1
    cases xs with
    | nil => exact absurd rfl hx
    | cons x xs => rfl
theorem OwnO.baseV {w : World} {B0 B b : Nat} {A : Option Addr} {xs : List Nat} (h : OwnO w B0 A b xs) (hB : B ≤ B0) : OwnO w B A b xs := by
  rcases h with h | ⟨h1, h2, h3⟩
  · exact .inl h
  · exact .inr ⟨h1, Nat.le_trans hB h2, h3⟩
theorem OwnO.setV {w : World} {B0 b : Nat} {A : Option Addr} {xs : List Nat} (h : OwnO w B0 A b xs) {p : Addr} (hp : p.block < B0) (v : Value) : OwnO (w.setCell p v) B0 A b xs := by
  rcases h with h | ⟨h1, h2, h3⟩
  · exact .inl h
  · exact .inr ⟨h1, h2, h3.setCell (by omega) v⟩
theorem OwnO.fit {w : World} {B0 b m : Nat} {A : Option Addr} {xs : List Nat} (h : OwnO w B0 A b xs) : OwnO w B0 A (if xs = [] then m else b) xs := by
  split
  · next e => exact .inl e
  · exact h
theorem OwnR2.ofB {w : World} {B0 gx gy cx cy : Nat} {X Y : Option Addr} {xs ys : List Nat} (hx : OwnO w B0 X gx xs) (hy : OwnO w B0 Y gy ys) (hne : ∀ g, blkV (.slice X xs.length cx) = some g → blkV (.slice Y ys.length cy) ≠ some g) : ∃ g1 g2, OwnR2 w B0 X Y g1 g2 xs ys := by
  refine ⟨if xs = [] then gx + gy + 1 else gx, if ys = [] then gx + gy + 2 else gy, hx.fit, hy.fit, ?_⟩
  split <;> split <;> try omega
  next h1 h2 =>
    have h3 := hne _ (hx.blkOf h1)
    rw [hy.blkOf h2] at h3
    exact fun e => h3 (by rw [e])
theorem OwnR2.setV {w : World} {B0 b1 b2 : Nat} {A L : Option Addr} {a l : List Nat} (h : OwnR2 w B0 A L b1 b2 a l) {p : Addr} (hp : p.block < B0) (v : Value) : OwnR2 (w.setCell p v) B0 A L b1 b2 a l := ⟨h.1.setV hp v, h.2.1.setV hp v, h.2.2⟩
theorem OwnR2.baseV {w : World} {B0 B b1 b2 : Nat} {A L : Option Addr} {a l : List Nat} (h : OwnR2 w B0 A L b1 b2 a l) (hB : B ≤ B0) : OwnR2 w B A L b1 b2 a l := ⟨h.1.baseV hB, h.2.1.baseV hB, h.2.2⟩
theorem OwnR2.turnV {w w' : World} {RB B0 b1 b2 : Nat} {A L : Option Addr} {a l : List Nat} (h : OwnR2 w B0 A L b1 b2 a l) (ht : Turn w w' (fun b => b = RB)) (hb : RB < B0) : OwnR2 w' B0 A L b1 b2 a l := ⟨h.1.turnB ht hb, h.2.1.turnB ht hb, h.2.2⟩
theorem OwnR2.belowV {w w' : World} {B0 b1 b2 : Nat} {A L : Option Addr} {a l : List Nat} (h : OwnR2 w B0 A L b1 b2 a l) (hb : Below w.heap.size w w') : OwnR2 w' B0 A L b1 b2 a l := ⟨h.1.below hb, h.2.1.below hb, h.2.2⟩
theorem OwnQ.ofB {w : World} {B0 gx gy gz cx cy cz : Nat} {X Y Z : Option Addr} {xs ys zs : List Nat} (hx : OwnO w B0 X gx xs) (hy : OwnO w B0 Y gy ys) (hz : OwnO w B0 Z gz zs) (h12 : ∀ g, blkV (.slice X xs.length cx) = some g → blkV (.slice Y ys.length cy) ≠ some g) (h13 : ∀ g, blkV (.slice X xs.length cx) = some g → blkV (.slice Z zs.length cz) ≠ some g) (h23 : ∀ g, blkV (.slice Y ys.length cy) = some g → blkV (.slice Z zs.length cz) ≠ some g) : ∃ g1 g2 g3, OwnQ w B0 X Y Z g1 g2 g3 xs ys zs := by
  refine ⟨if xs = [] then gx + gy + gz + 1 else gx, if ys = [] then gx + gy + gz + 2 else gy, if zs = [] then gx + gy + gz + 3 else gz, hx.fit, hy.fit, hz.fit, ?_, ?_, ?_⟩
  · split <;> split <;> try omega
    next h1 h2 =>
      have h3 := h12 _ (hx.blkOf h1)
      rw [hy.blkOf h2] at h3
      exact fun e => h3 (by rw [e])
  · split <;> split <;> try omega
    next h1 h2 =>
      have h3 := h13 _ (hx.blkOf h1)
      rw [hz.blkOf h2] at h3
      exact fun e => h3 (by rw [e])
  · split <;> split <;> try omega
    next h1 h2 =>
      have h3 := h23 _ (hy.blkOf h1)
      rw [hz.blkOf h2] at h3
      exact fun e => h3 (by rw [e])
theorem OwnQ.setV {w : World} {B0 b1 b2 b3 : Nat} {A L D : Option Addr} {a l d : List Nat} (h : OwnQ w B0 A L D b1 b2 b3 a l d) {p : Addr} (hp : p.block < B0) (v : Value) : OwnQ (w.setCell p v) B0 A L D b1 b2 b3 a l d := ⟨h.1.setV hp v, h.2.1.setV hp v, h.2.2.1.setV hp v, h.2.2.2⟩
theorem OwnQ.baseV {w : World} {B0 B b1 b2 b3 : Nat} {A L D : Option Addr} {a l d : List Nat} (h : OwnQ w B0 A L D b1 b2 b3 a l d) (hB : B ≤ B0) : OwnQ w B A L D b1 b2 b3 a l d := ⟨h.1.baseV hB, h.2.1.baseV hB, h.2.2.1.baseV hB, h.2.2.2⟩
theorem OwnQ.turnV {w w' : World} {RB B0 b1 b2 b3 : Nat} {A L D : Option Addr} {a l d : List Nat} (h : OwnQ w B0 A L D b1 b2 b3 a l d) (ht : Turn w w' (fun b => b = RB)) (hb : RB < B0) : OwnQ w' B0 A L D b1 b2 b3 a l d := ⟨h.1.turnB ht hb, h.2.1.turnB ht hb, h.2.2.1.turnB ht hb, h.2.2.2⟩
theorem OwnQ.belowV {w w' : World} {B0 b1 b2 b3 : Nat} {A L D : Option Addr} {a l d : List Nat} (h : OwnQ w B0 A L D b1 b2 b3 a l d) (hb : Below w.heap.size w w') : OwnQ w' B0 A L D b1 b2 b3 a l d := h.below hb
/-- a list and whether it was there -/
def NT (lo : Nat) (xs : List Nat) (ok : Bool) (W : World) (v : Value) : Prop := ∃ A c g, v = .tuple #[.slice A xs.length c, .bool ok] ∧ OwnO W lo A g xs
def NS (lo : Nat) (xs : List Nat) (W : World) (v : Value) : Prop := ∃ A c g, v = .slice A xs.length c ∧ OwnO W lo A g xs
theorem NT.turn {lo RB : Nat} {xs : List Nat} {ok : Bool} {W W' : World} {v : Value} (h : NT lo xs ok W v) (ht : Turn W W' (fun b => b = RB)) (hb : RB < lo) : NT lo xs ok W' v := by
  obtain ⟨A, c, g, rfl, h⟩ := h
  exact ⟨A, c, g, rfl, h.turnB ht hb⟩
theorem NS.turn {lo RB : Nat} {xs : List Nat} {W W' : World} {v : Value} (h : NS lo xs W v) (ht : Turn W W' (fun b => b = RB)) (hb : RB < lo) : NS lo xs W' v := by
  obtain ⟨A, c, g, rfl, h⟩ := h
  exact ⟨A, c, g, rfl, h.turnB ht hb⟩
theorem nm_256 (s : ByteArray) : (nmL s).length ≤ 256 := by
  unfold nmL
  split
  · simp
  · split
    · next h1 h2 =>
      unfold nmO at h2
      rw [decide_eq_false h1, Bool.false_or, Bool.and_eq_true, decide_eq_true_eq] at h2
      rw [List.length_map]
      exact h2.1
    · simp
end Go.Proofs.YtknabmknboffgaaGreatDoor
