/- A profile that grows: three lists of the call's own, in a struct; profiles that are given if they are valid. No statement is proved here. -/
import Derived.Test.YtknabmknboffgaaGreatDoorVal
import Derived.Test.YtknabmknboffgaaGreatDoorMarkR
import Derived.Test.YtknabmknboffgaaGreatDoorApp
import Derived.Test.YtknabmknboffgaaGreatDoorOpenWP
import Derived.Lib.SliceRun
import Derived.Lib.AppendZeros
import Derived.Maps.AppendAt
import Derived.RegionTactic
import Derived.BigRegion
namespace Go.Proofs.YtknabmknboffgaaGreatDoor
open Go Go.RowKit
def gLp (o : Bool) (xs : List Nat) : List Nat := if o then xs else []
theorem BlkL.keptP {w w' : World} {B : Nat} {vs : List Value} {row : Option Nat} (h : BlkL w B vs) (hg : w.grownBy w' row) (hne : row ≠ some B) : BlkL w' B vs := by
  have hb : w'.heap[B]? = w.heap[B]? := hg.block B h.1 (fun e => hne e.symm)
  refine ⟨Nat.lt_of_lt_of_le h.1 hg.size, fun j v hj => ?_⟩
  obtain ⟨h1, h2⟩ := h.2 j v hj
  refine ⟨by rw [← h1]; exact World.cell?_of_block (w := w) hb, ?_⟩
  rw [← h2]
  unfold World.frozen?
  simp only [hb]
theorem Gr.ltP {w : World} {B0 : Nat} {v : Value} {xs : List Nat} (h : Gr w B0 v xs) {k : Nat} (hk : v.ownBlock = some k) : B0 ≤ k ∧ k < w.heap.size := World.ownsRow.lt h k hk
theorem Gr.keptP {w w' : World} {B0 : Nat} {v : Value} {xs : List Nat} {row : Option Nat} (h : Gr w B0 v xs) (hg : w.grownBy w' row) (hne : v.ownBlock = none ∨ v.ownBlock ≠ row) : Gr w' B0 v xs := World.ownsRow.kept h hg hne
theorem Gr.setCellP {w : World} {B0 : Nat} {v : Value} {xs : List Nat} (h : Gr w B0 v xs) {p : Addr} (hp : v.ownBlock ≠ some p.block) (u : Value) : Gr (w.setCell p u) B0 v xs := by
  refine ⟨h.1, ?_⟩
  rcases h.2 with hn | ⟨g, cap, cur, rfl, hbg, hgg, rest⟩
  · exact .inl hn
  · refine .inr ⟨g, cap, cur, rfl, hbg, ?_, rest⟩
    have hne : p.block ≠ g := fun e => hp (by rw [e]; rfl)
    rw [← hgg]
    unfold World.setCell
    split <;> (simp only; rw [Array.getElem?_modify, if_neg hne])
/-- three lists of the call's own, apart from each other -/
structure G3 (w0 wr : World) (v1 v2 v3 : Value) (xs ys zs : List Nat) : Prop where
  g1 : Gr wr w0.heap.size v1 xs
  g2 : Gr wr w0.heap.size v2 ys
  g3 : Gr wr w0.heap.size v3 zs
  n12 : ∀ k, v1.ownBlock = some k → v2.ownBlock ≠ some k
  n13 : ∀ k, v1.ownBlock = some k → v3.ownBlock ≠ some k
  n23 : ∀ k, v2.ownBlock = some k → v3.ownBlock ≠ some k
  below : Below w0.heap.size w0 wr
theorem G3.more {w0 wr w' : World} {v1 v2 v3 : Value} {xs ys zs : List Nat} (h : G3 w0 wr v1 v2 v3 xs ys zs) (b : Below wr.heap.size wr w') : G3 w0 w' v1 v2 v3 xs ys zs :=
  ⟨h.g1.below b, h.g2.below b, h.g3.below b, h.n12, h.n13, h.n23, below_of h.below h.below.size b⟩
theorem Gr.baseP {w : World} {B0 B : Nat} {v : Value} {xs : List Nat} (h : Gr w B0 v xs) (hB : B ≤ B0) : Gr w B v xs := by
  refine ⟨h.1, ?_⟩
  rcases h.2 with hn | ⟨g, cap, cur, rfl, hbg, rest⟩
  · exact .inl hn
  · exact .inr ⟨g, cap, cur, rfl, Nat.le_trans hB hbg, rest⟩
theorem G3.base {w w0 wr : World} {v1 v2 v3 : Value} {xs ys zs : List Nat} (h : G3 w0 wr v1 v2 v3 xs ys zs) (b : Below w.heap.size w w0) : G3 w wr v1 v2 v3 xs ys zs :=
  ⟨h.g1.baseP b.size, h.g2.baseP b.size, h.g3.baseP b.size, h.n12, h.n13, h.n23, b.trans (h.below.mono b.size)⟩
/-- a struct of three lists in the block Bo -/
structure FQ (w0 wr : World) (Bo : Nat) (v1 v2 v3 : Value) (xs ys zs : List Nat) : Prop where
  g : G3 w0 wr v1 v2 v3 xs ys zs
  blk : BlkL wr Bo [v1, v2, v3]
  m1 : v1.ownBlock ≠ some Bo
  m2 : v2.ownBlock ≠ some Bo
  m3 : v3.ownBlock ≠ some Bo
  hB : w0.heap.size ≤ Bo
theorem FQ.more {w0 wr w' : World} {Bo : Nat} {v1 v2 v3 : Value} {xs ys zs : List Nat} (h : FQ w0 wr Bo v1 v2 v3 xs ys zs) (b : Below wr.heap.size wr w') : FQ w0 w' Bo v1 v2 v3 xs ys zs :=
  ⟨h.g.more b, h.blk.below b, h.m1, h.m2, h.m3, h.hB⟩
theorem FQ.draws {w0 wr : World} {Bo : Nat} {v1 v2 v3 : Value} {xs ys zs : List Nat} (h : FQ w0 wr Bo v1 v2 v3 xs ys zs) (n : Nat) : FQ w0 (wr.drewN n) Bo v1 v2 v3 xs ys zs := h.more (below_draws (Below.refl _ _) n)
/-- the struct is laid -/
theorem G3.lay {w0 wr : World} {v1 v2 v3 : Value} {xs ys zs : List Nat} (h : G3 w0 wr v1 v2 v3 xs ys zs) (t : TypeId) : FQ w0 (wr.alloc (.cells #[v1, v2, v3] t)) wr.heap.size v1 v2 v3 xs ys zs := by
  refine ⟨h.more ((Below.refl _ _).alloc (Nat.le_refl _) _), blkL_at wr #[_, _, _] t rfl, ?_, ?_, ?_, h.below.size⟩
  · intro e; have := (h.g1.ltP e).2; omega
  · intro e; have := (h.g2.ltP e).2; omega
  · intro e; have := (h.g3.ltP e).2; omega
/-- the list 1 has grown and is stored again -/
theorem FQ.put1 {w0 wr w1 : World} {Bo m : Nat} {v1 v2 v3 v : Value} {xs ys zs ts : List Nat} {o : Obj} (h : FQ w0 wr Bo v1 v2 v3 xs ys zs) (hm : m = ts.length)
    (ho : w1.ownsRow w0.heap.size 22 1 v (xs.length + m) (xs.map (Value.float .f32) ++ ts.map (Value.float .f32))) (hg : (wr.alloc o).grownBy w1 v1.ownBlock) (hat : v.ownBlock = v1.ownBlock ∨ v.ownBlock = some (wr.alloc o).heap.size) :
    FQ w0 (w1.setCell ⟨Bo, 0, none⟩ v) Bo v v2 v3 (xs ++ ts) ys zs := by
  subst hm
  have hlt := h.blk.1
  have hsz : (wr.alloc o).heap.size = wr.heap.size + 1 := by simp
  have gg : Gr w1 w0.heap.size v (xs ++ ts) := by unfold Gr; simpa using ho
  have nn : v.ownBlock ≠ some Bo := by
    rcases hat with e | e
    · rw [e]; exact h.m1
    · rw [e]; intro hh; cases hh; omega
  have q2 : ∀ k, v1.ownBlock = some k → v2.ownBlock ≠ some k := fun k hi hj => h.g.n12 k hi hj
  have s2 : ∀ k, v.ownBlock = some k → v2.ownBlock ≠ some k := by
    intro k hk hk'
    rcases hat with e | e
    · exact q2 k (by rw [← e]; exact hk) hk'
    · rw [e] at hk; cases hk
      have := (h.g.g2.ltP hk').2
      omega
  have t2 : Gr w1 w0.heap.size v2 ys := by
    refine (h.g.g2.below ((Below.refl _ _).alloc (Nat.le_refl _) o)).keptP hg ?_
    cases e : v2.ownBlock with
    | none => exact .inl rfl
    | some k => exact .inr (fun e2 => q2 k e2.symm e)
  have q3 : ∀ k, v1.ownBlock = some k → v3.ownBlock ≠ some k := fun k hi hj => h.g.n13 k hi hj
  have s3 : ∀ k, v.ownBlock = some k → v3.ownBlock ≠ some k := by
    intro k hk hk'
    rcases hat with e | e
    · exact q3 k (by rw [← e]; exact hk) hk'
    · rw [e] at hk; cases hk
      have := (h.g.g3.ltP hk').2
      omega
  have t3 : Gr w1 w0.heap.size v3 zs := by
    refine (h.g.g3.below ((Below.refl _ _).alloc (Nat.le_refl _) o)).keptP hg ?_
    cases e : v3.ownBlock with
    | none => exact .inl rfl
    | some k => exact .inr (fun e2 => q3 k e2.symm e)
  have b1 : Below w0.heap.size w0 w1 := (h.g.below.alloc h.g.below.size o).grown hg (by have := h.g.below.size; omega) (fun k hk => (h.g.g1.ltP hk).1)
  have k1 : BlkL w1 Bo [v1, v2, v3] := (h.blk.alloc o).keptP hg h.m1
  exact ⟨⟨gg.setCellP nn _, t2.setCellP h.m2 _, t3.setCellP h.m3 _, s2, s3, h.g.n23, b1.setCell h.hB _⟩, k1.set (i := 0) (by simp) v, nn, h.m2, h.m3, h.hB⟩
theorem FQ.mid1 {w0 wr w1 : World} {Bo : Nat} {v1 v2 v3 : Value} {xs ys zs : List Nat} {o : Obj} (h : FQ w0 wr Bo v1 v2 v3 xs ys zs) (hg : (wr.alloc o).grownBy w1 v1.ownBlock) : BlkL w1 Bo [v1, v2, v3] := (h.blk.alloc o).keptP hg h.m1
/-- the list 2 has grown and is stored again -/
theorem FQ.put2 {w0 wr w1 : World} {Bo m : Nat} {v1 v2 v3 v : Value} {xs ys zs ts : List Nat} {o : Obj} (h : FQ w0 wr Bo v1 v2 v3 xs ys zs) (hm : m = ts.length)
    (ho : w1.ownsRow w0.heap.size 22 1 v (ys.length + m) (ys.map (Value.float .f32) ++ ts.map (Value.float .f32))) (hg : (wr.alloc o).grownBy w1 v2.ownBlock) (hat : v.ownBlock = v2.ownBlock ∨ v.ownBlock = some (wr.alloc o).heap.size) :
    FQ w0 (w1.setCell ⟨Bo, 1, none⟩ v) Bo v1 v v3 xs (ys ++ ts) zs := by
  subst hm
  have hlt := h.blk.1
  have hsz : (wr.alloc o).heap.size = wr.heap.size + 1 := by simp
  have gg : Gr w1 w0.heap.size v (ys ++ ts) := by unfold Gr; simpa using ho
  have nn : v.ownBlock ≠ some Bo := by
    rcases hat with e | e
    · rw [e]; exact h.m2
    · rw [e]; intro hh; cases hh; omega
  have q1 : ∀ k, v2.ownBlock = some k → v1.ownBlock ≠ some k := fun k hi hj => h.g.n12 k hj hi
  have s1 : ∀ k, v.ownBlock = some k → v1.ownBlock ≠ some k := by
    intro k hk hk'
    rcases hat with e | e
    · exact q1 k (by rw [← e]; exact hk) hk'
    · rw [e] at hk; cases hk
      have := (h.g.g1.ltP hk').2
      omega
  have t1 : Gr w1 w0.heap.size v1 xs := by
    refine (h.g.g1.below ((Below.refl _ _).alloc (Nat.le_refl _) o)).keptP hg ?_
    cases e : v1.ownBlock with
    | none => exact .inl rfl
    | some k => exact .inr (fun e2 => q1 k e2.symm e)
  have q3 : ∀ k, v2.ownBlock = some k → v3.ownBlock ≠ some k := fun k hi hj => h.g.n23 k hi hj
  have s3 : ∀ k, v.ownBlock = some k → v3.ownBlock ≠ some k := by
    intro k hk hk'
    rcases hat with e | e
    · exact q3 k (by rw [← e]; exact hk) hk'
    · rw [e] at hk; cases hk
      have := (h.g.g3.ltP hk').2
      omega
  have t3 : Gr w1 w0.heap.size v3 zs := by
    refine (h.g.g3.below ((Below.refl _ _).alloc (Nat.le_refl _) o)).keptP hg ?_
    cases e : v3.ownBlock with
    | none => exact .inl rfl
    | some k => exact .inr (fun e2 => q3 k e2.symm e)
  have b1 : Below w0.heap.size w0 w1 := (h.g.below.alloc h.g.below.size o).grown hg (by have := h.g.below.size; omega) (fun k hk => (h.g.g2.ltP hk).1)
  have k1 : BlkL w1 Bo [v1, v2, v3] := (h.blk.alloc o).keptP hg h.m2
  exact ⟨⟨t1.setCellP h.m1 _, gg.setCellP nn _, t3.setCellP h.m3 _, (fun k hk hk2 => s1 k hk2 hk), h.g.n13, s3, b1.setCell h.hB _⟩, k1.set (i := 1) (by simp) v, h.m1, nn, h.m3, h.hB⟩
theorem FQ.mid2 {w0 wr w1 : World} {Bo : Nat} {v1 v2 v3 : Value} {xs ys zs : List Nat} {o : Obj} (h : FQ w0 wr Bo v1 v2 v3 xs ys zs) (hg : (wr.alloc o).grownBy w1 v2.ownBlock) : BlkL w1 Bo [v1, v2, v3] := (h.blk.alloc o).keptP hg h.m2
/-- the list 3 has grown and is stored again -/
theorem FQ.put3 {w0 wr w1 : World} {Bo m : Nat} {v1 v2 v3 v : Value} {xs ys zs ts : List Nat} {o : Obj} (h : FQ w0 wr Bo v1 v2 v3 xs ys zs) (hm : m = ts.length)
    (ho : w1.ownsRow w0.heap.size 22 1 v (zs.length + m) (zs.map (Value.float .f32) ++ ts.map (Value.float .f32))) (hg : (wr.alloc o).grownBy w1 v3.ownBlock) (hat : v.ownBlock = v3.ownBlock ∨ v.ownBlock = some (wr.alloc o).heap.size) :
    FQ w0 (w1.setCell ⟨Bo, 2, none⟩ v) Bo v1 v2 v xs ys (zs ++ ts) := by
  subst hm
  have hlt := h.blk.1
  have hsz : (wr.alloc o).heap.size = wr.heap.size + 1 := by simp
  have gg : Gr w1 w0.heap.size v (zs ++ ts) := by unfold Gr; simpa using ho
  have nn : v.ownBlock ≠ some Bo := by
    rcases hat with e | e
    · rw [e]; exact h.m3
    · rw [e]; intro hh; cases hh; omega
  have q1 : ∀ k, v3.ownBlock = some k → v1.ownBlock ≠ some k := fun k hi hj => h.g.n13 k hj hi
  have s1 : ∀ k, v.ownBlock = some k → v1.ownBlock ≠ some k := by
    intro k hk hk'
    rcases hat with e | e
    · exact q1 k (by rw [← e]; exact hk) hk'
    · rw [e] at hk; cases hk
      have := (h.g.g1.ltP hk').2
      omega
  have t1 : Gr w1 w0.heap.size v1 xs := by
    refine (h.g.g1.below ((Below.refl _ _).alloc (Nat.le_refl _) o)).keptP hg ?_
    cases e : v1.ownBlock with
    | none => exact .inl rfl
    | some k => exact .inr (fun e2 => q1 k e2.symm e)
  have q2 : ∀ k, v3.ownBlock = some k → v2.ownBlock ≠ some k := fun k hi hj => h.g.n23 k hj hi
  have s2 : ∀ k, v.ownBlock = some k → v2.ownBlock ≠ some k := by
    intro k hk hk'
    rcases hat with e | e
    · exact q2 k (by rw [← e]; exact hk) hk'
    · rw [e] at hk; cases hk
      have := (h.g.g2.ltP hk').2
      omega
  have t2 : Gr w1 w0.heap.size v2 ys := by
    refine (h.g.g2.below ((Below.refl _ _).alloc (Nat.le_refl _) o)).keptP hg ?_
    cases e : v2.ownBlock with
    | none => exact .inl rfl
    | some k => exact .inr (fun e2 => q2 k e2.symm e)
  have b1 : Below w0.heap.size w0 w1 := (h.g.below.alloc h.g.below.size o).grown hg (by have := h.g.below.size; omega) (fun k hk => (h.g.g3.ltP hk).1)
  have k1 : BlkL w1 Bo [v1, v2, v3] := (h.blk.alloc o).keptP hg h.m3
  exact ⟨⟨t1.setCellP h.m1 _, t2.setCellP h.m2 _, gg.setCellP nn _, h.g.n12, (fun k hk hk2 => s1 k hk2 hk), (fun k hk hk2 => s2 k hk2 hk), b1.setCell h.hB _⟩, k1.set (i := 2) (by simp) v, h.m1, h.m2, nn, h.hB⟩
theorem FQ.mid3 {w0 wr w1 : World} {Bo : Nat} {v1 v2 v3 : Value} {xs ys zs : List Nat} {o : Obj} (h : FQ w0 wr Bo v1 v2 v3 xs ys zs) (hg : (wr.alloc o).grownBy w1 v3.ownBlock) : BlkL w1 Bo [v1, v2, v3] := (h.blk.alloc o).keptP hg h.m3
/-- three empty lists, made one after another -/
theorem G3.start (w : World) : G3 w (((w.alloc (.cells #[] 22)).alloc (.cells #[] 22)).alloc (.cells #[] 22)) (.slice (some ⟨w.heap.size, 0, none⟩) 0 0) (.slice (some ⟨w.heap.size + 1, 0, none⟩) 0 0) (.slice (some ⟨w.heap.size + 2, 0, none⟩) 0 0) [] [] [] := by
  have b0 : ∀ (W : World) (o : Obj), Below W.heap.size W (W.alloc o) := fun W o => (Below.refl _ _).alloc (Nat.le_refl _) _
  refine ⟨?_, ?_, ?_, ?_, ?_, ?_, ((b0 _ _).alloc (by simp) _).alloc (by simp; omega) _⟩
  · exact ((Gr.made w w.heap.size 0 #[] (Nat.le_refl _) (Nat.zero_le _) rfl).below (b0 _ _)).below (b0 _ _)
  · have h1 := Gr.made (w.alloc (.cells #[] 22)) w.heap.size 0 #[] (by simp) (Nat.zero_le _) rfl
    rw [show (w.alloc (.cells #[] 22)).heap.size = w.heap.size + 1 by simp] at h1
    exact h1.below (b0 _ _)
  · have h1 := Gr.made ((w.alloc (.cells #[] 22)).alloc (.cells #[] 22)) w.heap.size 0 #[] (by simp; omega) (Nat.zero_le _) rfl
    rw [show ((w.alloc (.cells #[] 22)).alloc (.cells #[] 22)).heap.size = w.heap.size + 2 by simp] at h1
    exact h1
  · intro k hk hk'
    have hk : w.heap.size = k := Option.some.inj hk
    have hk' : w.heap.size + 1 = k := Option.some.inj hk'
    omega
  · intro k hk hk'
    have hk : w.heap.size = k := Option.some.inj hk
    have hk' : w.heap.size + 2 = k := Option.some.inj hk'
    omega
  · intro k hk hk'
    have hk : w.heap.size + 1 = k := Option.some.inj hk
    have hk' : w.heap.size + 2 = k := Option.some.inj hk'
    omega
/-- what three such lists are, if they have any number -/
theorem G3.own {w0 wr : World} {v1 v2 v3 : Value} {xs ys zs : List Nat} (h : G3 w0 wr v1 v2 v3 xs ys zs) (hx : xs ≠ []) (hy : ys ≠ []) (hz : zs ≠ []) :
    ∃ (A L D : Option Addr) (c1 c2 c3 b1 b2 b3 : Nat), v1 = .slice A xs.length c1 ∧ v2 = .slice L ys.length c2 ∧ v3 = .slice D zs.length c3 ∧ OwnQ wr w0.heap.size A L D b1 b2 b3 xs ys zs := by
  obtain ⟨A, c1, b1, rfl, o1⟩ := h.g1.own
  obtain ⟨L, c2, b2, rfl, o2⟩ := h.g2.own
  obtain ⟨D, c3, b3, rfl, o3⟩ := h.g3.own
  rcases o1 with e | ⟨rfl, o1⟩
  · exact absurd e hx
  rcases o2 with e | ⟨rfl, o2⟩
  · exact absurd e hy
  rcases o3 with e | ⟨rfl, o3⟩
  · exact absurd e hz
  exact ⟨_, _, _, c1, c2, c3, b1, b2, b3, rfl, rfl, rfl, .inr ⟨rfl, o1⟩, .inr ⟨rfl, o2⟩, .inr ⟨rfl, o3⟩, fun e => h.n12 b1 rfl (by rw [e]; rfl), fun e => h.n13 b1 rfl (by rw [e]; rfl), fun e => h.n23 b2 rfl (by rw [e]; rfl)⟩
/-- lists that are told alike -/
def CL (xs ys : List Nat) : Prop := xs.length = ys.length ∧ ∀ k, k < xs.length → canon .f32 (xs.getD k 0) = canon .f32 (ys.getD k 0)
theorem CL.rfl' (xs : List Nat) : CL xs xs := ⟨rfl, fun _ _ => rfl⟩
theorem order_eqC {x x' y y' : Nat} (hx : canon .f32 x = canon .f32 x') (hy : canon .f32 y = canon .f32 y') : FloatKind.f32.format.order x y = FloatKind.f32.format.order x' y' := by
  rw [← order_canon .f32 x y, hx, hy, order_canon]
theorem fin_eqC {x x' : Nat} (hx : canon .f32 x = canon .f32 x') : fin .f32 x = fin .f32 x' := by rw [← fin_canon .f32 x, hx, fin_canon]
theorem angs_CL {xs ys : List Nat} (h : CL xs ys) : ∀ n, n ≤ xs.length → angs xs n = angs ys n := by
  intro n
  induction n with
  | zero => intro _; rfl
  | succ n ih =>
    intro hn
    have e1 := h.2 n (by omega)
    have e2 := h.2 (n - 1) (by omega)
    simp only [angs, ih (by omega), angStep, within, geq32, leq32]
    rw [order_eqC e1 rfl, order_eqC e1 rfl, order_eqC e1 e2]
theorem fins_CL {xs ys : List Nat} (h : CL xs ys) : ∀ n, n ≤ xs.length → fins xs n = fins ys n := by
  intro n
  induction n with
  | zero => intro _; rfl
  | succ n ih =>
    intro hn
    simp only [fins, ih (by omega)]
    rw [fin_eqC (h.2 n (by omega))]
theorem amts_CL {xs ys : List Nat} (h : CL xs ys) : ∀ n, n ≤ xs.length → amts xs n = amts ys n := by
  intro n
  induction n with
  | zero => intro _; rfl
  | succ n ih =>
    intro hn
    simp only [amts, ih (by omega), amount, geq32]
    rw [fin_eqC (h.2 n (by omega)), order_eqC (h.2 n (by omega)) rfl]
theorem validP_CL {a l d a' l' d' : List Nat} (h1 : CL a a') (h2 : CL l l') (h3 : CL d d') : validP a l d = validP a' l' d' := by
  by_cases hs : sized a l d
  · have hs' : sized a' l' d' := by
      unfold sized at hs ⊢
      rw [← h1.1, ← h2.1, ← h3.1]; exact hs
    rw [validP_yes hs, validP_yes hs', ← h1.1, ← h2.1, ← h3.1, angs_CL h1 _ (Nat.le_refl _), fins_CL h2 _ (Nat.le_refl _), amts_CL h3 _ (Nat.le_refl _)]
  · have hs' : ¬ sized a' l' d' := by
      intro hh; apply hs
      unfold sized at hh ⊢
      rw [h1.1, h2.1, h3.1]; exact hh
    rw [validP_no hs, validP_no hs']
theorem within_isn {x : Nat} (h : within x 3204448256 1056964608 = true) : isn .f32 x = false := by
  cases hn : isn .f32 x
  · rfl
  · unfold within geq32 at h
    rw [order_nan_left hn] at h
    cases h
theorem angs_isn {xs : List Nat} {n : Nat} (h : angs xs n = true) : ∀ k, k < n → isn .f32 (xs.getD k 0) = false := by
  induction n with
  | zero => intro k hk; omega
  | succ n ih =>
    intro k hk
    simp only [angs, Bool.and_eq_true] at h
    by_cases e : k = n
    · subst e
      have := h.2
      unfold angStep at this
      simp only [Bool.and_eq_true] at this
      exact within_isn this.1
    · exact ih h.1 k (by omega)
theorem fins_isn {xs : List Nat} {n : Nat} (h : fins xs n = true) : ∀ k, k < n → isn .f32 (xs.getD k 0) = false := by
  induction n with
  | zero => intro k hk; omega
  | succ n ih =>
    intro k hk
    simp only [fins, Bool.and_eq_true] at h
    by_cases e : k = n
    · subst e; exact isn_of_fin h.2
    · exact ih h.1 k (by omega)
theorem amts_isn {xs : List Nat} {n : Nat} (h : amts xs n = true) : ∀ k, k < n → isn .f32 (xs.getD k 0) = false := by
  induction n with
  | zero => intro k hk; omega
  | succ n ih =>
    intro k hk
    simp only [amts, Bool.and_eq_true] at h
    by_cases e : k = n
    · subst e
      have := h.2
      unfold amount at this
      simp only [Bool.and_eq_true] at this
      exact isn_of_fin this.1
    · exact ih h.1 k (by omega)
theorem CL.eq {xs ys : List Nat} (h : CL xs ys) (hx : ∀ k, k < xs.length → isn .f32 (xs.getD k 0) = false) : xs = ys := by
  apply List.ext_getElem h.1
  intro k h1 h2
  have e := h.2 k h1
  have hi := hx k h1
  have hi' : isn .f32 (ys.getD k 0) = false := by rw [← isn_canon, ← e, isn_canon]; exact hi
  rw [canon_of_not hi, canon_of_not hi'] at e
  simpa [List.getD, h1, h2] using e
/-- where a profile is valid, it is told word by word -/
theorem validP_eq {a l d a' l' d' : List Nat} (h1 : CL a a') (h2 : CL l l') (h3 : CL d d') (hv : validP a' l' d' = true) : a = a' ∧ l = l' ∧ d = d' := by
  rw [← validP_CL h1 h2 h3] at hv
  have hs := sized_of hv
  rw [validP_yes hs] at hv
  simp only [Bool.and_eq_true] at hv
  exact ⟨h1.eq (angs_isn hv.1), h2.eq (fins_isn hv.2.1), h3.eq (amts_isn hv.2.2)⟩
theorem CL.of_canon {xs ys : List Nat} {n : Nat} {q : Nat → Nat} (hx : xs.length = n) (hy : ys.length = n) (h1 : ∀ k, k < n → canon .f32 (xs.getD k 0) = q k) (h2 : ∀ k, k < n → canon .f32 (ys.getD k 0) = q k) : CL xs ys :=
  ⟨by omega, fun k hk => by rw [h1 k (by omega), h2 k (by omega)]⟩
theorem CL.snoc {xs X : List Nat} {x x' : Nat} (h : CL xs X) (e : canon .f32 x = canon .f32 x') : CL (xs ++ [x]) (X ++ [x']) := by
  refine ⟨by simp [h.1], fun k hk => ?_⟩
  have hk' : k < xs.length + 1 := by simpa using hk
  rw [getD_snoc xs x k hk', getD_snoc X x' k (by rw [← h.1]; exact hk'), ← h.1]
  by_cases e2 : k = xs.length
  · rw [if_pos e2, if_pos e2]; exact e
  · rw [if_neg e2, if_neg e2]; exact h.2 k (by omega)
theorem CL.nil {X : List Nat} (h : CL [] X) : X = [] := List.eq_nil_of_length_eq_zero (by rw [← h.1]; rfl)
theorem take_snoc {xs : List Nat} {k : Nat} (h : k < xs.length) : xs.take (k + 1) = xs.take k ++ [xs.getD k 0] := by
  rw [List.take_succ_eq_append_getElem h]; simp [List.getD, h]
theorem OwnQ.base {w : World} {B B0 b1 b2 b3 : Nat} {A L D : Option Addr} {a l d : List Nat} (h : OwnQ w B0 A L D b1 b2 b3 a l d) (hB : B ≤ B0) : OwnQ w B A L D b1 b2 b3 a l d := by
  obtain ⟨h1, h2, h3, n⟩ := h
  refine ⟨?_, ?_, ?_, n⟩
  · rcases h1 with e | ⟨e, e2, e3⟩
    · exact .inl e
    · exact .inr ⟨e, by omega, e3⟩
  · rcases h2 with e | ⟨e, e2, e3⟩
    · exact .inl e
    · exact .inr ⟨e, by omega, e3⟩
  · rcases h3 with e | ⟨e, e2, e3⟩
    · exact .inl e
    · exact .inr ⟨e, by omega, e3⟩
theorem OwnO.setC {w : World} {B0 b : Nat} {A : Option Addr} {a : List Nat} (h : OwnO w B0 A b a) {p : Addr} (hp : p.block < B0) (v : Value) : OwnO (w.setCell p v) B0 A b a := by
  rcases h with e | ⟨e, e2, e3⟩
  · exact .inl e
  · exact .inr ⟨e, e2, e3.setCell (by omega) v⟩
theorem OwnQ.setC {w : World} {B0 b1 b2 b3 : Nat} {A L D : Option Addr} {a l d : List Nat} (h : OwnQ w B0 A L D b1 b2 b3 a l d) {p : Addr} (hp : p.block < B0) (v : Value) : OwnQ (w.setCell p v) B0 A L D b1 b2 b3 a l d :=
  ⟨h.1.setC hp v, h.2.1.setC hp v, h.2.2.1.setC hp v, h.2.2.2⟩
theorem OwnQ.bd {w : World} {B0 b1 b2 b3 : Nat} {A L D : Option Addr} {a l d : List Nat} (h : OwnQ w B0 A L D b1 b2 b3 a l d) {b : Nat} (hb : SQ a l d b1 b2 b3 b) : B0 ≤ b ∧ b < w.heap.size := h.leS hb
theorem OwnQ.none (w : World) (B0 : Nat) : OwnQ w B0 .none .none .none 0 1 2 [] [] [] := ⟨.inl rfl, .inl rfl, .inl rfl, by decide, by decide, by decide⟩
/-- a profile in the block Bo that grows, told up to what not-a-numbers are -/
def PQ (w0 : World) (Bo : Nat) (X Y Z : List Nat) (ww : World) : Prop :=
  ∃ (v1 v2 v3 : Value) (xs ys zs : List Nat), FQ w0 ww Bo v1 v2 v3 xs ys zs ∧ CL xs X ∧ CL ys Y ∧ CL zs Z
theorem PQ.more {w0 wr w' : World} {Bo : Nat} {X Y Z : List Nat} (h : PQ w0 Bo X Y Z wr) (b : Below wr.heap.size wr w') : PQ w0 Bo X Y Z w' := by
  obtain ⟨v1, v2, v3, xs, ys, zs, h, e⟩ := h
  exact ⟨v1, v2, v3, xs, ys, zs, h.more b, e⟩
theorem PQ.draws {w0 wr : World} {Bo : Nat} {X Y Z : List Nat} (h : PQ w0 Bo X Y Z wr) (n : Nat) : PQ w0 Bo X Y Z (wr.drewN n) := h.more (below_draws (Below.refl _ _) n)
theorem PQ.below {w0 wr : World} {Bo : Nat} {X Y Z : List Nat} (h : PQ w0 Bo X Y Z wr) : Below w0.heap.size w0 wr := by
  obtain ⟨v1, v2, v3, xs, ys, zs, h, e⟩ := h
  exact h.g.below
theorem G3.pq {w0 wr : World} {v1 v2 v3 : Value} (h : G3 w0 wr v1 v2 v3 [] [] []) (t : TypeId) : PQ w0 wr.heap.size [] [] [] (wr.alloc (.cells #[v1, v2, v3] t)) := ⟨v1, v2, v3, [], [], [], h.lay t, CL.rfl' _, CL.rfl' _, CL.rfl' _⟩
/-- the world on the way through a region whose operation c puts a knot -/
def CF (c : Nat) (w0 : World) (Bo : Nat) (X Y Z X' Y' Z' : List Nat) (listed : Array Bool) (ww : World) : Prop :=
  (listed.getD c false = false → PQ w0 Bo X Y Z ww) ∧ (listed.getD c false = true → PQ w0 Bo X' Y' Z' ww)
theorem CF.start {c n : Nat} {w0 : World} {Bo : Nat} {X Y Z X' Y' Z' : List Nat} {ww : World} (h : PQ w0 Bo X Y Z ww) : CF c w0 Bo X Y Z X' Y' Z' (Array.replicate n false) ww := by
  refine ⟨fun _ => h, fun h => ?_⟩
  rw [Array.getD_eq_getD_getElem?, Array.getElem?_replicate] at h
  split at h <;> cases h
theorem CF.keep {c i n : Nat} {w0 : World} {Bo : Nat} {X Y Z X' Y' Z' : List Nat} {listed : Array Bool} {ww : World} (h : CF c w0 Bo X Y Z X' Y' Z' listed ww) (hn : listed.size = n) (hi : i < n) (hc : i ≠ c) : CF c w0 Bo X Y Z X' Y' Z' (listed.setIfInBounds i true) ww := by
  have e : (listed.setIfInBounds i true).getD c false = listed.getD c false := by rw [getD_set (by omega), if_neg hc]
  unfold CF
  rw [e]
  exact h
theorem CF.draws {c : Nat} {w0 : World} {Bo : Nat} {X Y Z X' Y' Z' : List Nat} {listed : Array Bool} {ww : World} (h : CF c w0 Bo X Y Z X' Y' Z' listed ww) (n : Nat) : CF c w0 Bo X Y Z X' Y' Z' listed (ww.drewN n) :=
  ⟨fun e => (h.1 e).draws n, fun e => (h.2 e).draws n⟩
theorem CF.below {c : Nat} {w0 : World} {Bo : Nat} {X Y Z X' Y' Z' : List Nat} {listed : Array Bool} {ww : World} (h : CF c w0 Bo X Y Z X' Y' Z' listed ww) : Below w0.heap.size w0 ww := by
  cases e : listed.getD c false
  · exact (h.1 e).below
  · exact (h.2 e).below
theorem CF.ahead {c : Nat} {w0 : World} {Bo : Nat} {X Y Z X' Y' Z' : List Nat} {listed : Array Bool} {ww : World} (h : CF c w0 Bo X Y Z X' Y' Z' listed ww) (e : listed.getD c false = false) : PQ w0 Bo X Y Z ww := h.1 e
theorem CF.call {c n : Nat} {w0 : World} {Bo : Nat} {X Y Z X' Y' Z' : List Nat} {listed : Array Bool} {ww : World} (h : PQ w0 Bo X' Y' Z' ww) (hn : listed.size = n) (hc : c < n) : CF c w0 Bo X Y Z X' Y' Z' (listed.setIfInBounds c true) ww := by
  have e : (listed.setIfInBounds c true).getD c false = true := by rw [getD_set (by omega), if_pos rfl]
  refine ⟨fun h1 => ?_, fun _ => h⟩
  rw [e] at h1
  cases h1
theorem CF.done {c : Nat} {w0 : World} {Bo : Nat} {X Y Z X' Y' Z' : List Nat} {listed : Array Bool} {ww : World} (h : CF c w0 Bo X Y Z X' Y' Z' listed ww) (e : listed.getD c false = true) : PQ w0 Bo X' Y' Z' ww := h.2 e
theorem gL_few {o : Bool} {a l d : List Nat} (h : o = true → sized a l d) : Few (gLp o a) (gLp o l) (gLp o d) := by
  unfold gLp Few
  cases o
  · simp
  · obtain ⟨h1, h2, h3, h4⟩ := h rfl
    simp only [if_true]
    omega
set_option maxHeartbeats 8000000 in
theorem s_GiveP_yes (A L D : Option Addr) (ca cl cd : Nat) (a l d : List Nat) (w : World) (h : Pf w A L D a l d) (hn : Few a l d) (hv : validP a l d = true) :
    Calls Tryz.prog 71 #[.agg #[.slice A a.length ca, .slice L l.length cl, .slice D d.length cd]] w fun e w' => e = .returned (.tuple #[.agg #[.slice A a.length ca, .slice L l.length cl, .slice D d.length cd], .bool true]) ∧ Below w.heap.size w w' := by
  have HP := Lib.hid h; clear h
  have HV := Lib.hid hv; clear hv
  have HB : ∀ o1 o2, Hid (Below w.heap.size w ((w.alloc o1).alloc o2)) := fun _ _ => Lib.hid (((Below.refl _ _).alloc (Nat.le_refl _) _).alloc (by simp) _)
  have K0 : ∀ t o, Hid (BlkL ((w.alloc (.cells #[.slice A a.length ca, .slice L l.length cl, .slice D d.length cd] t)).alloc o) w.heap.size [.slice A a.length ca, .slice L l.length cl, .slice D d.length cd]) := fun t o => Lib.hid ((blkL_at w #[.slice A a.length ca, .slice L l.length cl, .slice D d.length cd] t rfl).alloc o)
  have K1 : ∀ t o, Hid (BlkL ((w.alloc o).alloc (.cells #[.slice none 0 0, .slice none 0 0, .slice none 0 0] t)) (w.heap.size + 1) [.slice none 0 0, .slice none 0 0, .slice none 0 0]) := fun t o => Lib.hid (blkL_at (w.alloc o) #[.slice none 0 0, .slice none 0 0, .slice none 0 0] t (by simp))
  have K3 : ∀ t o, Hid (Blk3 ((w.alloc (.cells #[.slice A a.length ca, .slice L l.length cl, .slice D d.length cd] t)).alloc o) w.heap.size (.slice A a.length ca) (.slice L l.length cl) (.slice D d.length cd)) := fun t o => Lib.hid ((blk3_new w _ _ _ t).alloc o)
  go_enter Tryz.func71, Tryz.ntmps71
  go_wp2_with fail
  refine (s_l02Is A L D ca cl cd a l d _ _ (HP.out.below (HB _ _).out) (K3 _ _).out hn).mono ?_
  rintro e w1 ⟨n1, rfl, hw⟩
  have b1 : Below ((w.alloc (.cells #[.slice A a.length ca, .slice L l.length cl, .slice D d.length cd] 39)).alloc (.cells #[.slice none 0 0, .slice none 0 0, .slice none 0 0] 39)).heap.size ((w.alloc (.cells #[.slice A a.length ca, .slice L l.length cl, .slice D d.length cd] 39)).alloc (.cells #[.slice none 0 0, .slice none 0 0, .slice none 0 0] 39)) w1 := by rw [hw]; exact below_draws (Below.refl _ _) _
  clear hw K3
  have L0 : Hid (BlkL w1 w.heap.size [.slice A a.length ca, .slice L l.length cl, .slice D d.length cd]) := Lib.hid ((K0 _ _).out.below b1)
  have L1 : Hid (BlkL w1 (w.heap.size + 1) [.slice none 0 0, .slice none 0 0, .slice none 0 0]) := Lib.hid ((K1 _ _).out.below b1)
  have B1 : Hid (Below w.heap.size w w1) := Lib.hid (below_of (HB _ _).out (HB _ _).out.size b1)
  clear b1 K0 K1 HB
  rw [HV.out]
  obtain ⟨k0, k1, k2⟩ := L0.out.three
  have p0 := (L1.out.2 0 _ rfl).1
  have q0 := (L1.out.2 0 _ rfl).2
  have p1 := (L1.out.2 1 _ rfl).1
  have q1 := (L1.out.2 1 _ rfl).2
  have p2 := (L1.out.2 2 _ rfl).1
  have q2 := (L1.out.2 2 _ rfl).2
  go_wp2
  refine bodyPost_ret (v := .tuple #[.agg #[.slice A a.length ca, .slice L l.length cl, .slice D d.length cd], .bool true]) ?_ rfl ⟨rfl, ?_⟩
  · simp [results, Tryz.results71, go_sem, p0, p1, p2]
  · exact (((B1.out).setCell (p := ⟨w.heap.size + 1, 0, none⟩) (by show w.heap.size ≤ w.heap.size + 1; omega) _).setCell (p := ⟨w.heap.size + 1, 1, none⟩) (by show w.heap.size ≤ w.heap.size + 1; omega) _).setCell (p := ⟨w.heap.size + 1, 2, none⟩) (by show w.heap.size ≤ w.heap.size + 1; omega) _
set_option maxHeartbeats 8000000 in
theorem s_GiveP_no (A L D : Option Addr) (ca cl cd : Nat) (a l d : List Nat) (w : World) (h : Pf w A L D a l d) (hn : Few a l d) (hv : validP a l d = false) :
    Calls Tryz.prog 71 #[.agg #[.slice A a.length ca, .slice L l.length cl, .slice D d.length cd]] w fun e w' => e = .returned (.tuple #[.agg #[.slice none 0 0, .slice none 0 0, .slice none 0 0], .bool false]) ∧ Below w.heap.size w w' := by
  have HP := Lib.hid h; clear h
  have HV := Lib.hid hv; clear hv
  have HB : ∀ o1 o2, Hid (Below w.heap.size w ((w.alloc o1).alloc o2)) := fun _ _ => Lib.hid (((Below.refl _ _).alloc (Nat.le_refl _) _).alloc (by simp) _)
  have K0 : ∀ t o, Hid (BlkL ((w.alloc (.cells #[.slice A a.length ca, .slice L l.length cl, .slice D d.length cd] t)).alloc o) w.heap.size [.slice A a.length ca, .slice L l.length cl, .slice D d.length cd]) := fun t o => Lib.hid ((blkL_at w #[.slice A a.length ca, .slice L l.length cl, .slice D d.length cd] t rfl).alloc o)
  have K1 : ∀ t o, Hid (BlkL ((w.alloc o).alloc (.cells #[.slice none 0 0, .slice none 0 0, .slice none 0 0] t)) (w.heap.size + 1) [.slice none 0 0, .slice none 0 0, .slice none 0 0]) := fun t o => Lib.hid (blkL_at (w.alloc o) #[.slice none 0 0, .slice none 0 0, .slice none 0 0] t (by simp))
  have K3 : ∀ t o, Hid (Blk3 ((w.alloc (.cells #[.slice A a.length ca, .slice L l.length cl, .slice D d.length cd] t)).alloc o) w.heap.size (.slice A a.length ca) (.slice L l.length cl) (.slice D d.length cd)) := fun t o => Lib.hid ((blk3_new w _ _ _ t).alloc o)
  go_enter Tryz.func71, Tryz.ntmps71
  go_wp2_with fail
  refine (s_l02Is A L D ca cl cd a l d _ _ (HP.out.below (HB _ _).out) (K3 _ _).out hn).mono ?_
  rintro e w1 ⟨n1, rfl, hw⟩
  have b1 : Below ((w.alloc (.cells #[.slice A a.length ca, .slice L l.length cl, .slice D d.length cd] 39)).alloc (.cells #[.slice none 0 0, .slice none 0 0, .slice none 0 0] 39)).heap.size ((w.alloc (.cells #[.slice A a.length ca, .slice L l.length cl, .slice D d.length cd] 39)).alloc (.cells #[.slice none 0 0, .slice none 0 0, .slice none 0 0] 39)) w1 := by rw [hw]; exact below_draws (Below.refl _ _) _
  clear hw K3
  have L0 : Hid (BlkL w1 w.heap.size [.slice A a.length ca, .slice L l.length cl, .slice D d.length cd]) := Lib.hid ((K0 _ _).out.below b1)
  have L1 : Hid (BlkL w1 (w.heap.size + 1) [.slice none 0 0, .slice none 0 0, .slice none 0 0]) := Lib.hid ((K1 _ _).out.below b1)
  have B1 : Hid (Below w.heap.size w w1) := Lib.hid (below_of (HB _ _).out (HB _ _).out.size b1)
  clear b1 K0 K1 HB
  rw [HV.out]
  obtain ⟨k0, k1, k2⟩ := L0.out.three
  have p0 := (L1.out.2 0 _ rfl).1
  have q0 := (L1.out.2 0 _ rfl).2
  have p1 := (L1.out.2 1 _ rfl).1
  have q1 := (L1.out.2 1 _ rfl).2
  have p2 := (L1.out.2 2 _ rfl).1
  have q2 := (L1.out.2 2 _ rfl).2
  go_wp2
  refine bodyPost_ret (v := .tuple #[.agg #[.slice none 0 0, .slice none 0 0, .slice none 0 0], .bool false]) ?_ rfl ⟨rfl, ?_⟩
  · simp [results, Tryz.results71, go_sem, p0, p1, p2]
  · exact (((B1.out).setCell (p := ⟨w.heap.size + 1, 0, none⟩) (by show w.heap.size ≤ w.heap.size + 1; omega) _).setCell (p := ⟨w.heap.size + 1, 1, none⟩) (by show w.heap.size ≤ w.heap.size + 1; omega) _).setCell (p := ⟨w.heap.size + 1, 2, none⟩) (by show w.heap.size ≤ w.heap.size + 1; omega) _
end Go.Proofs.YtknabmknboffgaaGreatDoor
