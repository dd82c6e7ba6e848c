/- EvenRotor: the words. No statement is proved here. -/
import Derived.Test.YtiiiigldpbomkaaTwC
import Derived.Test.YtiiiigldpbomkaaMulC
namespace Go.Proofs.Ytiiiigldpbomkaa
open Go Go.RowKit
def evQ (n k : Nat) : Nat := fop .quo .f32 (fop .add .f32 (canon .f32 (floatOfInt .f32 (k : Int))) (canon .f32 1056964608)) (canon .f32 (floatOfInt .f32 (n : Int)))
def evR (n hub tip k : Nat) : Nat := fop .add .f32 (canon .f32 hub) (fop .mul .f32 (fop .sub .f32 (canon .f32 tip) (canon .f32 hub)) (evQ n k))
/-- the stations, three numbers each -/
def evS (n hub tip ch tu : Nat) : List Nat := (List.range (n * 3)).map fun j => if j % 3 = 0 then evR n hub tip (j / 3) else if j % 3 = 1 then ch else tu
def evO (a l d : List Nat) (c i : Int) (hub tip ch tu : Nat) : Bool := validR a l d (evS i.toNat hub tip ch tu) i.toNat c hub tip
section
variable {n hub tip ch tu k : Nat} {a l d : List Nat} {c i : Int}
theorem evS_length : (evS n hub tip ch tu).length = n * 3 := by simp [evS]
theorem evS_0 (h : k < n) : (evS n hub tip ch tu).getD (k * 3) 0 = evR n hub tip k := by
  have : k * 3 < n * 3 := by omega
  simp [evS, List.getD, this]
theorem evS_1 (h : k < n) : (evS n hub tip ch tu).getD (k * 3 + 1) 0 = ch := by
  have h1 : k * 3 + 1 < n * 3 := by omega
  have h2 : (k * 3 + 1) % 3 = 1 := by omega
  simp [evS, List.getD, h1, h2]
theorem evS_2 (h : k < n) : (evS n hub tip ch tu).getD (k * 3 + 2) 0 = tu := by
  have h1 : k * 3 + 2 < n * 3 := by omega
  have h2 : (k * 3 + 2) % 3 = 2 := by omega
  simp [evS, List.getD, h1, h2]
theorem evO_p (h : validP a l d = false) : evO a l d c i hub tip ch tu = false := validR_p h
theorem evO_z (h : ¬ (2 ≤ i ∧ i ≤ 12)) : evO a l d c i hub tip ch tu = false := validR_z (fun hz => h (by obtain ⟨-, -, h1, h2⟩ := hz; omega))
theorem ev_few : FewR (gLp (evO a l d c i hub tip ch tu) a) (gLp (evO a l d c i hub tip ch tu) l) (gLp (evO a l d c i hub tip ch tu) d) (gLp (evO a l d c i hub tip ch tu) (evS i.toNat hub tip ch tu)) (gN (evO a l d c i hub tip ch tu) i.toNat) := by
  cases h : evO a l d c i hub tip ch tu
  · simp [gLp, gN, FewR]
  · obtain ⟨h3, h4, h5, h6, h7⟩ := validR_parts h
    obtain ⟨s1, s2, s3, s4⟩ := sized_of h3
    simp only [gLp, gN, if_true, FewR]
    exact ⟨evS_length, by omega⟩
theorem evR_spec {r q : Nat} {w1 w2 w3 : World} (hq : canon .f32 q = evQ n k) (hr : r = fopV .add .f32 hub (fopV .mul .f32 (fopV .sub .f32 tip hub w1) q w2) w3) : canon .f32 r = canon .f32 (evR n hub tip k) := by
  rw [hr, canon_fopV, canon_fopV, canon_fopV, hq]
  exact (canon_fop ..).symm
theorem evR_impl {r q : Nat} (hq : canon .f32 q = evQ n k) (hr : canon .f32 r = fop .add .f32 (canon .f32 hub) (fop .mul .f32 (canon .f32 q) (fop .sub .f32 (canon .f32 tip) (canon .f32 hub)))) : canon .f32 r = canon .f32 (evR n hub tip k) := by
  rw [hr, hq, fop_mul_comm]
  exact (canon_fop ..).symm
theorem Turn.grownE {wa wq w2 : World} {S0 : Nat → Prop} {o : Obj} {row : Option Nat} (h : Turn wa wq S0) (m : Nat) (hg : ((wq.drewN m).alloc o).grownBy w2 row) (hr : ∀ k, row = some k → wa.heap.size ≤ k) : Turn wa w2 S0 := by
  have hz : wq.heap.size + 1 ≤ w2.heap.size := by have := hg.size; simpa using this
  have hb : ∀ i, i < wa.heap.size → w2.heap[i]? = wq.heap[i]? := fun i hi => by
    have h1 := h.1
    rw [hg.block i (by simp; omega) (fun e => by have := hr i e.symm; omega)]
    show (wq.heap.push o)[i]? = _
    rw [Array.getElem?_push, if_neg (by omega)]
  refine ⟨Nat.le_trans h.1 (by omega), fun p hp hs => ?_, fun p hp => ?_, fun w0 hw hs => ?_⟩
  · rw [World.cell?_of_block (hb p.block hp)]; exact h.2.1 p hp hs
  · rw [World.frozen?_of_block (hb p.block hp)]; exact h.2.2.1 p hp
  · have hq := h.2.2.2 w0 hw hs
    exact ((below_draws hq m).alloc hq.size o).grown hg (by have := hq.size; simp; omega) (fun k hk => by have := hr k hk; have := hw.size; omega)
theorem BlkL.grownE {wq w2 : World} {B : Nat} {vs : List Value} {o : Obj} {row : Option Nat} (h : BlkL wq B vs) (m : Nat) (hg : ((wq.drewN m).alloc o).grownBy w2 row) (hr : some B ≠ row) : BlkL w2 B vs := by
  have hz : wq.heap.size + 1 ≤ w2.heap.size := by have := hg.size; simpa using this
  have hb : w2.heap[B]? = wq.heap[B]? := by
    have h1 := h.1
    rw [hg.block B (by simp; omega) hr]
    show (wq.heap.push o)[B]? = _
    rw [Array.getElem?_push, if_neg (by omega)]
  exact ⟨by have := h.1; omega, fun j v hj => ⟨by rw [World.cell?_of_block (a := ⟨B, j, none⟩) hb]; exact (h.2 j v hj).1, by rw [World.frozen?_of_block (a := ⟨B, j, none⟩) hb]; exact (h.2 j v hj).2⟩⟩
theorem Gr3.form {w : World} {B0 k : Nat} {v : Value} {xs : List Nat} (h : Gr3 w B0 v k xs) : (∃ A cap, v = .slice A k cap) ∧ ∀ b, v.ownBlock = some b → B0 ≤ b := by
  refine ⟨?_, fun b hb => (World.ownsRow.lt h b hb).1⟩
  rcases h.2 with ⟨rfl, h0⟩ | ⟨g, cap, cur, rfl, -⟩
  · exact ⟨none, 0, by rw [h0]⟩
  · exact ⟨_, cap, rfl⟩
theorem Gr3.setE {w : World} {B0 k : Nat} {v : Value} {xs : List Nat} (h : Gr3 w B0 v k xs) {p : Addr} (hp : p.block < B0) (u : Value) : Gr3 (w.setCell p u) B0 v k xs := by
  refine ⟨h.1, ?_⟩
  rcases h.2 with hn | ⟨g, cap, cur, rfl, hbg, hgg, rest⟩
  · exact .inl hn
  · refine .inr ⟨g, cap, cur, rfl, hbg, ?_, rest⟩
    rw [← hgg]
    have hne : p.block ≠ g := by omega
    unfold World.setCell
    split <;> (simp only; rw [Array.getElem?_modify, if_neg hne])
theorem blk3_ofL {w : World} {B : Nat} {v0 v1 v2 : Value} (h : BlkL w B [v0, v1, v2]) : Blk3 w B v0 v1 v2 :=
  ⟨h.1, ⟨(h.2 0 _ rfl).1, (h.2 1 _ rfl).1, (h.2 2 _ rfl).1⟩, (h.2 0 _ rfl).2, (h.2 1 _ rfl).2, (h.2 2 _ rfl).2⟩
end
theorem i_betweenE (a b s : Nat) (w : World) :
    Calls Try.prog 74 #[.float .f32 a, .float .f32 b, .float .f32 s] w fun e w' => ∃ r n, e = .returned (.float .f32 r) ∧ canon .f32 r = fop .add .f32 (canon .f32 a) (fop .mul .f32 (canon .f32 s) (fop .sub .f32 (canon .f32 b) (canon .f32 a))) ∧ w' = w.drewN n := by
  go_enter Try.func74, Try.ntmps74
  go_wp2_with fail
  refine (i_mulNumbers _ _ _).mono ?_
  rintro e w' ⟨rfl, rfl⟩
  go_wp2
  go_ret
  exact ⟨_, _, rfl, by simp only [canon_fopV], rfl⟩
end Go.Proofs.Ytiiiigldpbomkaa
