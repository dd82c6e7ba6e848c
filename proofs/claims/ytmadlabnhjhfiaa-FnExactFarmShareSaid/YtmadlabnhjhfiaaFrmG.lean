/- A farm that grows: two lists of the call's own in a struct. No statement is proved here. -/
import Derived.Test.YtmadlabnhjhfiaaFrmB
import Derived.Maps.AppendAt
namespace Go.Proofs.Ytmadlabnhjhfiaa
open Go Go.RowKit
theorem BlkL.kept {w w' : World} {B : Nat} {vs : List Value} {row : Option Nat} (h : BlkL w B vs) (hg : w.grownBy w' row) (hne : row ≠ some B) : BlkL w' B vs := by
  have hb : w'.heap[B]? = w.heap[B]? := hg.block B h.1 (fun e => hne e.symm)
  refine ⟨Nat.lt_of_lt_of_le h.1 hg.size, fun j v hj => ?_⟩
  obtain ⟨h1, h2⟩ := h.2 j v hj
  refine ⟨by rw [← h1]; exact World.cell?_of_block (w := w) hb, ?_⟩
  rw [← h2]
  unfold World.frozen?
  simp only [hb]
/-- a struct of two lists and three numbers in the block Bo -/
structure FG (w0 wr : World) (Bo : Nat) (v v' : Value) (r d s : Nat) (xs ys : List Nat) : Prop where
  blk : BlkL wr Bo [v, v', .float .f32 r, .float .f32 d, .float .f32 s]
  gx : Gr wr w0.heap.size v xs
  gy : Gr wr w0.heap.size v' ys
  nv : ∀ k, v.ownBlock = some k → v'.ownBlock ≠ some k
  nx : v.ownBlock ≠ some Bo
  ny : v'.ownBlock ≠ some Bo
  below : Below w0.heap.size w0 wr
  hB : w0.heap.size ≤ Bo
theorem Gr.lt' {w : World} {B0 : Nat} {v : Value} {xs : List Nat} (h : Gr w B0 v xs) {k : Nat} (hk : v.ownBlock = some k) : B0 ≤ k ∧ k < w.heap.size := World.ownsRow.lt h k hk
theorem Gr.kept {w w' : World} {B0 : Nat} {v : Value} {xs : List Nat} {row : Option Nat} (h : Gr w B0 v xs) (hg : w.grownBy w' row) (hne : v.ownBlock = none ∨ v.ownBlock ≠ row) : Gr w' B0 v xs := World.ownsRow.kept h hg hne
theorem Gr.setCell {w : World} {B0 : Nat} {v : Value} {xs : List Nat} (h : Gr w B0 v xs) {p : Addr} (hp : v.ownBlock ≠ some p.block) (u : Value) : Gr (w.setCell p u) B0 v xs := by
  refine ⟨h.1, ?_⟩
  rcases h.2 with hn | ⟨g, cap, cur, rfl, hbg, hgg, rest⟩
  · exact .inl hn
  · refine .inr ⟨g, cap, cur, rfl, hbg, ?_, rest⟩
    have hne : p.block ≠ g := fun e => hp (by rw [e]; rfl)
    rw [← hgg]
    unfold World.setCell
    split <;> (simp only; rw [Array.getElem?_modify, if_neg hne])
theorem FG.swapNv {w0 wr : World} {Bo : Nat} {v v' : Value} {r d s : Nat} {xs ys : List Nat} (h : FG w0 wr Bo v v' r d s xs ys) : ∀ k, v'.ownBlock = some k → v.ownBlock ≠ some k := fun k h1 h2 => h.nv k h2 h1
/-- the first list has grown and is stored again -/
theorem FG.putX {w0 wr w1 : World} {Bo m : Nat} {v v' v2 : Value} {r d s : Nat} {xs ys zs : List Nat} {o : Obj} (h : FG w0 wr Bo v v' r d s xs ys) (hm : m = zs.length)
    (ho : w1.ownsRow w0.heap.size 22 1 v2 (xs.length + m) (xs.map (Value.float .f32) ++ zs.map (Value.float .f32))) (hg : (wr.alloc o).grownBy w1 v.ownBlock) (hat : v2.ownBlock = v.ownBlock ∨ v2.ownBlock = some (wr.alloc o).heap.size) :
    FG w0 (w1.setCell ⟨Bo, 0, none⟩ v2) Bo v2 v' r d s (xs ++ zs) ys := by
  subst hm
  have hlt := h.blk.1
  have hsz : (wr.alloc o).heap.size = wr.heap.size + 1 := by simp
  have g1 : Gr w1 w0.heap.size v2 (xs ++ zs) := by unfold Gr; simpa using ho
  have n2 : v2.ownBlock ≠ some Bo := by
    rcases hat with e | e
    · rw [e]; exact h.nx
    · rw [e]; intro hh; cases hh; omega
  have gyA : Gr (wr.alloc o) w0.heap.size v' ys := h.gy.below ((Below.refl _ _).alloc (Nat.le_refl _) _)
  have gy1 : Gr w1 w0.heap.size v' ys := by
    refine gyA.kept hg ?_
    cases e : v'.ownBlock with
    | none => exact .inl rfl
    | some k => exact .inr (fun e2 => h.nv k e2.symm e)
  have b1 : Below w0.heap.size w0 w1 := (h.below.alloc h.below.size o).grown hg (by have := h.below.size; omega) (fun k hk => (h.gx.lt' hk).1)
  have k1 : BlkL w1 Bo [v, v', .float .f32 r, .float .f32 d, .float .f32 s] := (h.blk.alloc o).kept hg h.nx
  refine ⟨k1.set (i := 0) (by simp) v2, g1.setCell n2 _, gy1.setCell h.ny _, ?_, n2, h.ny, b1.setCell h.hB _, h.hB⟩
  intro k hk hk'
  rcases hat with e | e
  · exact h.nv k (by rw [← e]; exact hk) hk'
  · rw [e] at hk; cases hk
    have := (h.gy.lt' hk').2
    omega
/-- the second list has grown and is stored again -/
theorem FG.putY {w0 wr w1 : World} {Bo m : Nat} {v v' v2 : Value} {r d s : Nat} {xs ys zs : List Nat} {o : Obj} (h : FG w0 wr Bo v v' r d s xs ys) (hm : m = zs.length)
    (ho : w1.ownsRow w0.heap.size 22 1 v2 (ys.length + m) (ys.map (Value.float .f32) ++ zs.map (Value.float .f32))) (hg : (wr.alloc o).grownBy w1 v'.ownBlock) (hat : v2.ownBlock = v'.ownBlock ∨ v2.ownBlock = some (wr.alloc o).heap.size) :
    FG w0 (w1.setCell ⟨Bo, 1, none⟩ v2) Bo v v2 r d s xs (ys ++ zs) := by
  subst hm
  have hlt := h.blk.1
  have hsz : (wr.alloc o).heap.size = wr.heap.size + 1 := by simp
  have g1 : Gr w1 w0.heap.size v2 (ys ++ zs) := by unfold Gr; simpa using ho
  have n2 : v2.ownBlock ≠ some Bo := by
    rcases hat with e | e
    · rw [e]; exact h.ny
    · rw [e]; intro hh; cases hh; omega
  have gxA : Gr (wr.alloc o) w0.heap.size v xs := h.gx.below ((Below.refl _ _).alloc (Nat.le_refl _) _)
  have gx1 : Gr w1 w0.heap.size v xs := by
    refine gxA.kept hg ?_
    cases e : v.ownBlock with
    | none => exact .inl rfl
    | some k => exact .inr (fun e2 => h.nv k e e2.symm)
  have b1 : Below w0.heap.size w0 w1 := (h.below.alloc h.below.size o).grown hg (by have := h.below.size; omega) (fun k hk => (h.gy.lt' hk).1)
  have k1 : BlkL w1 Bo [v, v', .float .f32 r, .float .f32 d, .float .f32 s] := (h.blk.alloc o).kept hg h.ny
  refine ⟨k1.set (i := 1) (by simp) v2, gx1.setCell h.nx _, g1.setCell n2 _, ?_, h.nx, n2, b1.setCell h.hB _, h.hB⟩
  intro k hk hk'
  rcases hat with e | e
  · exact h.nv k hk (by rw [← e]; exact hk')
  · rw [e] at hk'; cases hk'
    have := (h.gx.lt' hk).2
    omega
theorem FG.draws {w0 wr : World} {Bo : Nat} {v v' : Value} {r d s : Nat} {xs ys : List Nat} (h : FG w0 wr Bo v v' r d s xs ys) (n : Nat) : FG w0 (wr.drewN n) Bo v v' r d s xs ys :=
  ⟨h.blk.draws n, h.gx.draws n, h.gy.draws n, h.nv, h.nx, h.ny, below_draws h.below n, h.hB⟩
theorem FG.alloc {w0 wr : World} {Bo : Nat} {v v' : Value} {r d s : Nat} {xs ys : List Nat} (h : FG w0 wr Bo v v' r d s xs ys) (o : Obj) : FG w0 (wr.alloc o) Bo v v' r d s xs ys :=
  have b := (Below.refl wr.heap.size wr).alloc (Nat.le_refl _) o
  ⟨h.blk.below b, h.gx.below b, h.gy.below b, h.nv, h.nx, h.ny, below_of h.below h.below.size b, h.hB⟩
theorem FG.midX {w0 wr w1 : World} {Bo : Nat} {v v' : Value} {r d s : Nat} {xs ys : List Nat} {o : Obj} (h : FG w0 wr Bo v v' r d s xs ys) (hg : (wr.alloc o).grownBy w1 v.ownBlock) : BlkL w1 Bo [v, v', .float .f32 r, .float .f32 d, .float .f32 s] := (h.blk.alloc o).kept hg h.nx
theorem FG.midY {w0 wr w1 : World} {Bo : Nat} {v v' : Value} {r d s : Nat} {xs ys : List Nat} {o : Obj} (h : FG w0 wr Bo v v' r d s xs ys) (hg : (wr.alloc o).grownBy w1 v'.ownBlock) : BlkL w1 Bo [v, v', .float .f32 r, .float .f32 d, .float .f32 s] := (h.blk.alloc o).kept hg h.ny
theorem Gr.base {w : World} {B0 B : Nat} {v : Value} {xs : List Nat} (h : Gr w B0 v xs) (hB : B ≤ B0) : Gr w B v xs := by
  refine ⟨h.1, ?_⟩
  rcases h.2 with hn | ⟨g, cap, cur, rfl, hbg, rest⟩
  · exact .inl hn
  · exact .inr ⟨g, cap, cur, rfl, Nat.le_trans hB hbg, rest⟩
end Go.Proofs.Ytmadlabnhjhfiaa
