/- The new desk: its rotor and its drive. No statement is proved here. -/
import Derived.Test.YtiiiigldpbomkaaStM
import Derived.Test.YtiiiigldpbomkaaWop
import Derived.Test.YtiiiigldpbomkaaRotL
import Derived.Test.YtiiiigldpbomkaaDrv
namespace Go.Proofs.Ytiiiigldpbomkaa
open Go Go.RowKit
def twG (u p x : Nat) : Nat := if p = 2 then fop .add .f32 (canon .f32 x) (canon .f32 u) else x
def scG (u p x : Nat) : Nat := if p = 2 then x else fop .mul .f32 (canon .f32 u) (canon .f32 x)
theorem getD_setL {xs : List Nat} {k j x : Nat} (h : k < xs.length) : (xs.set k x).getD j 0 = if j = k then x else xs.getD j 0 := by
  by_cases e : j = k
  · subst e; rw [if_pos rfl]; simp [List.getD, h]
  · rw [if_neg e]; simp [List.getD, List.getElem?_set_ne (Ne.symm e)]
/-- every number of a list of threes by its place among the three -/
def mp3 (g : Nat → Nat → Nat) (s : List Nat) : List Nat := (List.range s.length).map fun j => g (j % 3) (s.getD j 0)
theorem mp3_length (g : Nat → Nat → Nat) (s : List Nat) : (mp3 g s).length = s.length := by simp [mp3]
theorem mp3_at {g : Nat → Nat → Nat} {s : List Nat} {j : Nat} (h : j < s.length) : (mp3 g s).getD j 0 = g (j % 3) (s.getD j 0) := by simp [mp3, List.getD, h]
theorem mp3_0 {g : Nat → Nat → Nat} {s : List Nat} {k : Nat} (h : k * 3 < s.length) : (mp3 g s).getD (k * 3) 0 = g 0 (s.getD (k * 3) 0) := by rw [mp3_at h, show k * 3 % 3 = 0 by omega]
theorem mp3_1 {g : Nat → Nat → Nat} {s : List Nat} {k : Nat} (h : k * 3 + 1 < s.length) : (mp3 g s).getD (k * 3 + 1) 0 = g 1 (s.getD (k * 3 + 1) 0) := by rw [mp3_at h, show (k * 3 + 1) % 3 = 1 by omega]
theorem mp3_2 {g : Nat → Nat → Nat} {s : List Nat} {k : Nat} (h : k * 3 + 2 < s.length) : (mp3 g s).getD (k * 3 + 2) 0 = g 2 (s.getD (k * 3 + 2) 0) := by rw [mp3_at h, show (k * 3 + 2) % 3 = 2 by omega]
/-- the first k stations are changed -/
def Mid (s S : List Nat) (k : Nat) (xs : List Nat) : Prop := xs.length = s.length ∧ ∀ j, j < s.length → canon .f32 (xs.getD j 0) = canon .f32 ((if j < k * 3 then S else s).getD j 0)
theorem Mid.zero (s S : List Nat) : Mid s S 0 s := ⟨rfl, fun j _ => by rw [if_neg (by omega)]⟩
theorem Mid.cl {s S xs : List Nat} {n : Nat} (h : Mid s S n xs) (hs : s.length = n * 3) (hS : S.length = s.length) : CL xs S :=
  ⟨h.1.trans hS.symm, fun j hj => by rw [h.2 j (by rw [← h.1]; exact hj), if_pos (by have := h.1; omega)]⟩
theorem Mid.put {s S xs ys : List Nat} {k n : Nat} (h : Mid s S k xs) (hk : k < n) (hs : s.length = n * 3) (hl : ys.length = xs.length) (h0 : canon .f32 (ys.getD (k * 3) 0) = canon .f32 (S.getD (k * 3) 0)) (h1 : canon .f32 (ys.getD (k * 3 + 1) 0) = canon .f32 (S.getD (k * 3 + 1) 0)) (h2 : canon .f32 (ys.getD (k * 3 + 2) 0) = canon .f32 (S.getD (k * 3 + 2) 0))
    (ho : ∀ j, j ≠ k * 3 → j ≠ k * 3 + 1 → j ≠ k * 3 + 2 → ys.getD j 0 = xs.getD j 0) : Mid s S (k + 1) ys := by
  refine ⟨hl.trans h.1, fun j hj => ?_⟩
  by_cases e0 : j = k * 3
  · subst e0; rw [if_pos (by omega)]; exact h0
  by_cases e1 : j = k * 3 + 1
  · subst e1; rw [if_pos (by omega)]; exact h1
  by_cases e2 : j = k * 3 + 2
  · subst e2; rw [if_pos (by omega)]; exact h2
  rw [ho j e0 e1 e2, h.2 j hj]
  by_cases e : j < k * 3
  · rw [if_pos e, if_pos (by omega)]
  · rw [if_neg e, if_neg (by omega)]
theorem gtr32_isn {x y : Nat} (h : gtr32 x y = true) : isn .f32 x = false := by
  cases hn : isn .f32 x
  · rfl
  · unfold gtr32 at h
    rw [order_nan_left hn] at h
    cases h
theorem amount_C {x y : Nat} (h : canon .f32 x = canon .f32 y) : amount x = amount y := by
  simp only [amount, geq32]
  rw [fin_eqC h, order_eqC h rfl]
theorem amount_isn {x : Nat} (h : amount x = true) : isn .f32 x = false := by
  unfold amount at h
  simp only [Bool.and_eq_true] at h
  exact isn_of_fin h.1
theorem eq_of_canon {x y : Nat} (h : canon .f32 x = canon .f32 y) (hx : isn .f32 x = false) : x = y := by
  have hy : isn .f32 y = false := by rw [← isn_canon, ← h, isn_canon]; exact hx
  rw [canon_of_not hx, canon_of_not hy] at h
  exact h
theorem sts_CL {xs S : List Nat} {hub tip hub' tip' : Nat} (h : CL xs S) (hh : canon .f32 hub = canon .f32 hub') (ht : canon .f32 tip = canon .f32 tip') : ∀ k, k * 3 ≤ xs.length → sts xs hub tip k = sts S hub' tip' k := by
  intro k
  induction k with
  | zero => intro _; rfl
  | succ k ih =>
    intro hk
    have e0 : canon .f32 (rad xs k) = canon .f32 (rad S k) := h.2 (k * 3) (by omega)
    have e1 : canon .f32 (chd xs k) = canon .f32 (chd S k) := h.2 (k * 3 + 1) (by omega)
    have e2 : canon .f32 (twi xs k) = canon .f32 (twi S k) := h.2 (k * 3 + 2) (by omega)
    have eb : canon .f32 (bef xs hub k) = canon .f32 (bef S hub' k) := by
      unfold bef
      split
      · exact hh
      · exact h.2 ((k - 1) * 3) (by omega)
    simp only [sts, ih (by omega), stStep, posi, gtr32, lss32]
    rw [order_eqC e0 eb, order_eqC e0 ht, fin_eqC e1, order_eqC e1 rfl, fin_eqC e2]
theorem sts_isn {xs : List Nat} {hub tip : Nat} : ∀ n, sts xs hub tip n = true → ∀ j, j < n * 3 → isn .f32 (xs.getD j 0) = false := by
  intro n
  induction n with
  | zero => intro _ j hj; omega
  | succ n ih =>
    intro h j hj
    simp only [sts, Bool.and_eq_true] at h
    by_cases e : j < n * 3
    · exact ih h.1 j e
    · have h2 := h.2
      unfold stStep posi at h2
      simp only [Bool.and_eq_true] at h2
      obtain ⟨⟨g0, -⟩, ⟨g1, -⟩, g2⟩ := h2
      have hj3 : j = n * 3 ∨ j = n * 3 + 1 ∨ j = n * 3 + 2 := by omega
      rcases hj3 with rfl | rfl | rfl
      · exact gtr32_isn g0
      · exact isn_of_fin g1
      · exact isn_of_fin g2
theorem validR_CL {a l d xs S : List Nat} {n hub tip hub' tip' : Nat} {c : Int} (h : CL xs S) (hs : xs.length = n * 3) (hh : canon .f32 hub = canon .f32 hub') (ht : canon .f32 tip = canon .f32 tip') :
    validR a l d xs n c hub tip = validR a l d S n c hub' tip' ∧ (validR a l d S n c hub' tip' = true → xs = S ∧ hub = hub' ∧ tip = tip') := by
  have e : validR a l d xs n c hub tip = validR a l d S n c hub' tip' := by
    unfold validR
    rw [sts_CL h hh ht n (by omega), amount_C hh, fin_eqC ht]
  refine ⟨e, fun hv => ?_⟩
  rw [← e] at hv
  unfold validR at hv
  simp only [Bool.and_eq_true] at hv
  obtain ⟨-, -, v1, v2, v3⟩ := hv
  exact ⟨h.eq (fun k hk => sts_isn n v3 k (by omega)), eq_of_canon hh (amount_isn v1), eq_of_canon ht (isn_of_fin v2)⟩
/-- the first k stations of what is told -/
def Pre3 (S xs : List Nat) (k : Nat) : Prop := xs.length = k * 3 ∧ ∀ j, j < k * 3 → canon .f32 (xs.getD j 0) = canon .f32 (S.getD j 0)
theorem Pre3.nil (S : List Nat) : Pre3 S [] 0 := ⟨rfl, fun j hj => by omega⟩
theorem Pre3.cl {S xs : List Nat} {n : Nat} (h : Pre3 S xs n) (hS : S.length = n * 3) : CL xs S := ⟨h.1.trans hS.symm, fun j hj => h.2 j (by have := h.1; omega)⟩
theorem getD_app3 (xs : List Nat) (x y z j : Nat) : (xs ++ [x, y, z]).getD j 0 = if j < xs.length then xs.getD j 0 else if j = xs.length then x else if j = xs.length + 1 then y else if j = xs.length + 2 then z else 0 := by
  simp only [List.getD, List.getElem?_append]
  by_cases h : j < xs.length
  · simp [h]
  · rw [if_neg h, if_neg h]
    obtain ⟨i, rfl⟩ : ∃ i, j = xs.length + i := ⟨j - xs.length, by omega⟩
    rw [Nat.add_sub_cancel_left]
    rcases i with _ | _ | _ | i
    · simp
    · simp
    · simp
    · simp
theorem Pre3.snoc {S xs : List Nat} {k x y z : Nat} (h : Pre3 S xs k) (h0 : canon .f32 x = canon .f32 (S.getD (k * 3) 0)) (h1 : canon .f32 y = canon .f32 (S.getD (k * 3 + 1) 0)) (h2 : canon .f32 z = canon .f32 (S.getD (k * 3 + 2) 0)) : Pre3 S (xs ++ [x, y, z]) (k + 1) := by
  obtain ⟨e, h⟩ := h
  refine ⟨by rw [List.length_append, e]; simp; omega, fun j hj => ?_⟩
  rw [getD_app3, e]
  by_cases g0 : j < k * 3
  · rw [if_pos g0]; exact h j g0
  rw [if_neg g0]
  by_cases g1 : j = k * 3
  · subst g1; rw [if_pos rfl]; exact h0
  rw [if_neg g1]
  by_cases g2 : j = k * 3 + 1
  · subst g2; rw [if_pos rfl]; exact h1
  have g3 : j = k * 3 + 2 := by omega
  subst g3
  rw [if_neg g2, if_pos rfl]; exact h2
/-- a list of stations of the call's own, that may grow -/
def Gr3 (w : World) (B0 : Nat) (v : Value) (k : Nat) (xs : List Nat) : Prop := w.ownsRow B0 47 3 v k (xs.map (Value.float .f32))
theorem Gr3.below {w w' : World} {B0 k : Nat} {v : Value} {xs : List Nat} (h : Gr3 w B0 v k xs) (hb : Below w.heap.size w w') : Gr3 w' B0 v k xs := by
  refine ⟨h.1, ?_⟩
  rcases h.2 with hn | ⟨g, cap, cur, rfl, hbg, hgg, rest⟩
  · exact .inl hn
  · refine .inr ⟨g, cap, cur, rfl, hbg, ?_, rest⟩
    rw [hb.block g (Array.getElem?_eq_some_iff.1 hgg).1]
    exact hgg
theorem Gr3.next {w0 wr w1 : World} {B0 k x y z : Nat} {v v' : Value} {xs : List Nat} {o : Obj} (h : Gr3 wr B0 v k xs) (hb : Below w0.heap.size w0 wr) (hB : w0.heap.size ≤ B0)
    (ho : w1.ownsRow B0 47 3 v' (k + 1) (xs.map (Value.float .f32) ++ [.float .f32 x, .float .f32 y, .float .f32 z])) (hg : (wr.alloc o).grownBy w1 v.ownBlock) : Gr3 w1 B0 v' (k + 1) (xs ++ [x, y, z]) ∧ Below w0.heap.size w0 w1 := by
  refine ⟨by unfold Gr3; simpa using ho, ?_⟩
  have hlt := World.ownsRow.lt h
  exact (hb.alloc hb.size o).grown hg (by have := hb.size; simp; omega) (fun k hk => by have := (hlt k hk).1; omega)
theorem product_comm (x y : Ieee.Datum) : x.product y = y.product x := by
  cases x <;> cases y <;> simp [Ieee.Datum.product, Bool.xor_comm, Int.add_comm, Nat.mul_comm]
theorem fop_mul_comm (k : FloatKind) (x y : Nat) : fop .mul k x y = fop .mul k y x := by
  unfold fop floatBits Ieee.Format.mul
  simp only [product_comm]
def evQ (n k : Nat) : Nat := fop .quo .f32 (fop .add .f32 (canon .f32 (floatOfInt .f32 (k : Int))) (canon .f32 1056964608)) (canon .f32 (floatOfInt .f32 (n : Int)))
def evR (n hub tip k : Nat) : Nat := fop .add .f32 (canon .f32 hub) (fop .mul .f32 (fop .sub .f32 (canon .f32 tip) (canon .f32 hub)) (evQ n k))
/-- the stations, three numbers each -/
def evS (n hub tip ch tu : Nat) : List Nat := (List.range (n * 3)).map fun j => if j % 3 = 0 then evR n hub tip (j / 3) else if j % 3 = 1 then ch else tu
def evO (a l d : List Nat) (c i : Int) (hub tip ch tu : Nat) : Bool := validR a l d (evS i.toNat hub tip ch tu) i.toNat c hub tip
section
variable {n hub tip ch tu k : Nat} {a l d : List Nat} {c i : Int}
theorem evS_length : (evS n hub tip ch tu).length = n * 3 := by simp [evS]
theorem evS_0 (h : k < n) : (evS n hub tip ch tu).getD (k * 3) 0 = evR n hub tip k := by
  have : k * 3 < n * 3 := by omega
  simp [evS, List.getD, this]
theorem evS_1 (h : k < n) : (evS n hub tip ch tu).getD (k * 3 + 1) 0 = ch := by
  have h1 : k * 3 + 1 < n * 3 := by omega
  have h2 : (k * 3 + 1) % 3 = 1 := by omega
  simp [evS, List.getD, h1, h2]
theorem evS_2 (h : k < n) : (evS n hub tip ch tu).getD (k * 3 + 2) 0 = tu := by
  have h1 : k * 3 + 2 < n * 3 := by omega
  have h2 : (k * 3 + 2) % 3 = 2 := by omega
  simp [evS, List.getD, h1, h2]
theorem evO_p (h : validP a l d = false) : evO a l d c i hub tip ch tu = false := validR_p h
theorem evO_z (h : ¬ (2 ≤ i ∧ i ≤ 12)) : evO a l d c i hub tip ch tu = false := validR_z (fun hz => h (by obtain ⟨-, -, h1, h2⟩ := hz; omega))
theorem ev_few : FewR (gLp (evO a l d c i hub tip ch tu) a) (gLp (evO a l d c i hub tip ch tu) l) (gLp (evO a l d c i hub tip ch tu) d) (gLp (evO a l d c i hub tip ch tu) (evS i.toNat hub tip ch tu)) (gN (evO a l d c i hub tip ch tu) i.toNat) := by
  cases h : evO a l d c i hub tip ch tu
  · simp [gLp, gN, FewR]
  · obtain ⟨h3, h4, h5, h6, h7⟩ := validR_parts h
    obtain ⟨s1, s2, s3, s4⟩ := sized_of h3
    simp only [gLp, gN, if_true, FewR]
    exact ⟨evS_length, by omega⟩
theorem evR_spec {r q : Nat} {w1 w2 w3 : World} (hq : canon .f32 q = evQ n k) (hr : r = fopV .add .f32 hub (fopV .mul .f32 (fopV .sub .f32 tip hub w1) q w2) w3) : canon .f32 r = canon .f32 (evR n hub tip k) := by
  rw [hr, canon_fopV, canon_fopV, canon_fopV, hq]
  exact (canon_fop ..).symm
theorem evR_impl {r q : Nat} (hq : canon .f32 q = evQ n k) (hr : canon .f32 r = fop .add .f32 (canon .f32 hub) (fop .mul .f32 (canon .f32 q) (fop .sub .f32 (canon .f32 tip) (canon .f32 hub)))) : canon .f32 r = canon .f32 (evR n hub tip k) := by
  rw [hr, hq, fop_mul_comm]
  exact (canon_fop ..).symm
theorem Turn.grownE {wa wq w2 : World} {S0 : Nat → Prop} {o : Obj} {row : Option Nat} (h : Turn wa wq S0) (m : Nat) (hg : ((wq.drewN m).alloc o).grownBy w2 row) (hr : ∀ k, row = some k → wa.heap.size ≤ k) : Turn wa w2 S0 := by
  have hz : wq.heap.size + 1 ≤ w2.heap.size := by have := hg.size; simpa using this
  have hb : ∀ i, i < wa.heap.size → w2.heap[i]? = wq.heap[i]? := fun i hi => by
    have h1 := h.1
    rw [hg.block i (by simp; omega) (fun e => by have := hr i e.symm; omega)]
    show (wq.heap.push o)[i]? = _
    rw [Array.getElem?_push, if_neg (by omega)]
  refine ⟨Nat.le_trans h.1 (by omega), fun p hp hs => ?_, fun p hp => ?_, fun w0 hw hs => ?_⟩
  · rw [World.cell?_of_block (hb p.block hp)]; exact h.2.1 p hp hs
  · rw [World.frozen?_of_block (hb p.block hp)]; exact h.2.2.1 p hp
  · have hq := h.2.2.2 w0 hw hs
    exact ((below_draws hq m).alloc hq.size o).grown hg (by have := hq.size; simp; omega) (fun k hk => by have := hr k hk; have := hw.size; omega)
theorem BlkL.grownE {wq w2 : World} {B : Nat} {vs : List Value} {o : Obj} {row : Option Nat} (h : BlkL wq B vs) (m : Nat) (hg : ((wq.drewN m).alloc o).grownBy w2 row) (hr : some B ≠ row) : BlkL w2 B vs := by
  have hz : wq.heap.size + 1 ≤ w2.heap.size := by have := hg.size; simpa using this
  have hb : w2.heap[B]? = wq.heap[B]? := by
    have h1 := h.1
    rw [hg.block B (by simp; omega) hr]
    show (wq.heap.push o)[B]? = _
    rw [Array.getElem?_push, if_neg (by omega)]
  exact ⟨by have := h.1; omega, fun j v hj => ⟨by rw [World.cell?_of_block (a := ⟨B, j, none⟩) hb]; exact (h.2 j v hj).1, by rw [World.frozen?_of_block (a := ⟨B, j, none⟩) hb]; exact (h.2 j v hj).2⟩⟩
theorem Gr3.form {w : World} {B0 k : Nat} {v : Value} {xs : List Nat} (h : Gr3 w B0 v k xs) : (∃ A cap, v = .slice A k cap) ∧ ∀ b, v.ownBlock = some b → B0 ≤ b := by
  refine ⟨?_, fun b hb => (World.ownsRow.lt h b hb).1⟩
  rcases h.2 with ⟨rfl, h0⟩ | ⟨g, cap, cur, rfl, -⟩
  · exact ⟨none, 0, by rw [h0]⟩
  · exact ⟨_, cap, rfl⟩
theorem Gr3.setE {w : World} {B0 k : Nat} {v : Value} {xs : List Nat} (h : Gr3 w B0 v k xs) {p : Addr} (hp : p.block < B0) (u : Value) : Gr3 (w.setCell p u) B0 v k xs := by
  refine ⟨h.1, ?_⟩
  rcases h.2 with hn | ⟨g, cap, cur, rfl, hbg, hgg, rest⟩
  · exact .inl hn
  · refine .inr ⟨g, cap, cur, rfl, hbg, ?_, rest⟩
    rw [← hgg]
    have hne : p.block ≠ g := by omega
    unfold World.setCell
    split <;> (simp only; rw [Array.getElem?_modify, if_neg hne])
theorem blk3_ofL {w : World} {B : Nat} {v0 v1 v2 : Value} (h : BlkL w B [v0, v1, v2]) : Blk3 w B v0 v1 v2 :=
  ⟨h.1, ⟨(h.2 0 _ rfl).1, (h.2 1 _ rfl).1, (h.2 2 _ rfl).1⟩, (h.2 0 _ rfl).2, (h.2 1 _ rfl).2, (h.2 2 _ rfl).2⟩
end
theorem i_betweenE (a b s : Nat) (w : World) :
    Calls Try.prog 74 #[.float .f32 a, .float .f32 b, .float .f32 s] w fun e w' => ∃ r n, e = .returned (.float .f32 r) ∧ canon .f32 r = fop .add .f32 (canon .f32 a) (fop .mul .f32 (canon .f32 s) (fop .sub .f32 (canon .f32 b) (canon .f32 a))) ∧ w' = w.drewN n := by
  go_enter Try.func74, Try.ntmps74
  go_wp2_with fail
  refine (i_mulNumbers _ _ _).mono ?_
  rintro e w' ⟨rfl, rfl⟩
  go_wp2
  go_ret
  exact ⟨_, _, rfl, by simp only [canon_fopV], rfl⟩
theorem Own.made3 (w : World) (n : Nat) (E : TypeId) : Own (w.alloc (.cells (madeCells #[.float .f32 0, .float .f32 0, .float .f32 0] (n * 3)) E)) w.heap.size (List.replicate (n * 3) 0) := by
  refine ⟨by simp, fun j hj => ⟨?_, ?_⟩⟩
  · rw [List.length_replicate] at hj
    rw [World.cell?_alloc_at (w := w) (hn := rfl)]
    have : j % 3 = 0 ∨ j % 3 = 1 ∨ j % 3 = 2 := by omega
    rcases this with h | h | h <;> simp [madeCells, hj, h, List.getD]
  · rw [World.frozen?_alloc_at (w := w) (hn := rfl)]
theorem setSt_0 {s : List Nat} {k x y z : Nat} (h : k * 3 + 2 < s.length) : (setSt s k x y z).getD (k * 3) 0 = x := by
  unfold setSt
  rw [getD_setL (by simp; omega), if_neg (by omega), getD_setL (by simp; omega), if_neg (by omega), getD_setL (by omega), if_pos rfl]
theorem setSt_1 {s : List Nat} {k x y z : Nat} (h : k * 3 + 2 < s.length) : (setSt s k x y z).getD (k * 3 + 1) 0 = y := by
  unfold setSt
  rw [getD_setL (by simp; omega), if_neg (by omega), getD_setL (by simp; omega), if_pos rfl]
theorem setSt_2 {s : List Nat} {k x y z : Nat} (h : k * 3 + 2 < s.length) : (setSt s k x y z).getD (k * 3 + 2) 0 = z := by
  unfold setSt
  rw [getD_setL (by simp; omega), if_pos rfl]
theorem setSt_o {s : List Nat} {k x y z j : Nat} (h : k * 3 + 2 < s.length) (h0 : j ≠ k * 3) (h1 : j ≠ k * 3 + 1) (h2 : j ≠ k * 3 + 2) : (setSt s k x y z).getD j 0 = s.getD j 0 := by
  unfold setSt
  rw [getD_setL (by simp; omega), if_neg h2, getD_setL (by simp; omega), if_neg h1, getD_setL (by omega), if_neg h0]
theorem i_ValidRotor_p (A L D S : Option Addr) (ca cl cd n cs : Nat) (c : Int) (hub tip : Nat) (a l d : List Nat) (w : World) (h : Pf w A L D a l d) (hn : Few a l d) (v : validP a l d = false) :
    Calls Try.prog 84 #[.agg #[.slice A a.length ca, .slice L l.length cl, .slice D d.length cd, .slice S n cs, .int .i64 c, .float .f32 hub, .float .f32 tip]] w fun e w' => e = .returned (.bool false) ∧ Below w.heap.size w w' := by
  have HP := Lib.hid h; clear h
  have HN := Lib.hid hn; clear hn
  have V := Lib.hid v; clear v
  have HB : ∀ o1, Hid (Below w.heap.size w (w.alloc o1)) := fun _ => Lib.hid ((Below.refl _ _).alloc (Nat.le_refl _) _)
  go_enter Try.func84, Try.ntmps84
  go_wp2_with fail
  refine (i_ValidProfile A L D ca cl cd a l d _ (HP.out.below (HB _).out) HN.out).mono ?_
  rintro e w1 ⟨rfl, b1⟩
  rw [V.out]
  have B1 : Hid (Below w.heap.size w w1) := Lib.hid (below_of (HB _).out (by simp) b1)
  clear b1
  go_wp2
  go_ret
  exact ⟨rfl, B1.out⟩
set_option maxHeartbeats 8000000 in
theorem i_withOwn_p (A L D S : Option Addr) (ca cl cd n cs : Nat) (c : Int) (hub tip : Nat) (a l d : List Nat) (w : World) (h : Pf w A L D a l d) (hn : Few a l d) (v : validP a l d = false) :
    Calls Try.prog 75 #[.agg #[.slice A a.length ca, .slice L l.length cl, .slice D d.length cd, .slice S n cs, .int .i64 c, .float .f32 hub, .float .f32 tip]] w fun e w' => e = .returned (.tuple #[.agg #[.slice none 0 0, .slice none 0 0, .slice none 0 0, .slice none 0 0, .int .i64 0, .float .f32 0, .float .f32 0], .bool false]) ∧ Below w.heap.size w w' := by
  obtain ⟨w0, hw0⟩ : ∃ q, q = (w.alloc (.cells #[.slice A a.length ca, .slice L l.length cl, .slice D d.length cd, .slice S n cs, .int .i64 c, .float .f32 hub, .float .f32 tip] 30)).alloc (.cells #[.slice none 0 0, .slice none 0 0, .slice none 0 0, .slice none 0 0, .int .i64 0, .float .f32 0, .float .f32 0] 30) := ⟨_, rfl⟩
  have B0 : Hid (Below w.heap.size w w0) := Lib.hid (by rw [hw0]; exact ((Below.refl _ _).alloc (Nat.le_refl _) _).alloc (by simp) _)
  have K0 : Hid (BlkL w0 w.heap.size [.slice A a.length ca, .slice L l.length cl, .slice D d.length cd, .slice S n cs, .int .i64 c, .float .f32 hub, .float .f32 tip]) := Lib.hid (by rw [hw0]; exact (blkL_at w #[.slice A a.length ca, .slice L l.length cl, .slice D d.length cd, .slice S n cs, .int .i64 c, .float .f32 hub, .float .f32 tip] _ rfl).alloc _)
  have KR : Hid (BlkL w0 (w.heap.size + 1) [.slice none 0 0, .slice none 0 0, .slice none 0 0, .slice none 0 0, .int .i64 0, .float .f32 0, .float .f32 0]) := Lib.hid (by rw [hw0]; exact blkL_at (w.alloc _) #[.slice none 0 0, .slice none 0 0, .slice none 0 0, .slice none 0 0, .int .i64 0, .float .f32 0, .float .f32 0] _ (by simp))
  have HH := Lib.hid (h.below B0.out)
  have HN := Lib.hid hn; clear hn h
  have V := Lib.hid v; clear v
  obtain ⟨m0, m1, m2, m3, m4, m5, m6⟩ := K0.out.sevenT
  go_enter Try.func75, Try.ntmps75
  go_wp2_with fail
  rw [← hw0]
  clear hw0
  go_wp2_with fail
  refine (i_ValidRotor_p A L D S ca cl cd n cs c hub tip a l d _ HH.out HN.out V.out).mono ?_
  rintro e w1 ⟨rfl, b⟩
  clear m0 m1 m2 m3 m4 m5 m6
  have LR : Hid (BlkL w1 (w.heap.size + 1) [.slice none 0 0, .slice none 0 0, .slice none 0 0, .slice none 0 0, .int .i64 0, .float .f32 0, .float .f32 0]) := Lib.hid (KR.out.below b)
  have B1 : Hid (Below w.heap.size w w1) := Lib.hid (below_of B0.out B0.out.size b)
  clear b K0 KR B0 HH
  have p0 := (LR.out.2 0 _ rfl).1
  have q0 := (LR.out.2 0 _ rfl).2
  have p1 := (LR.out.2 1 _ rfl).1
  have q1 := (LR.out.2 1 _ rfl).2
  have p2 := (LR.out.2 2 _ rfl).1
  have q2 := (LR.out.2 2 _ rfl).2
  have p3 := (LR.out.2 3 _ rfl).1
  have q3 := (LR.out.2 3 _ rfl).2
  have p4 := (LR.out.2 4 _ rfl).1
  have q4 := (LR.out.2 4 _ rfl).2
  have p5 := (LR.out.2 5 _ rfl).1
  have q5 := (LR.out.2 5 _ rfl).2
  have p6 := (LR.out.2 6 _ rfl).1
  have q6 := (LR.out.2 6 _ rfl).2
  go_wp2
  refine bodyPost_ret (v := .tuple #[.agg #[.slice none 0 0, .slice none 0 0, .slice none 0 0, .slice none 0 0, .int .i64 0, .float .f32 0, .float .f32 0], .bool false]) ?_ rfl ⟨rfl, ?_⟩
  · simp [results, Try.results75, go_sem, p0, p1, p2, p3, p4, p5, p6]
  · exact (((((((B1.out).setCell (p := ⟨w.heap.size + 1, 0, none⟩) (by show w.heap.size ≤ w.heap.size + 1; omega) _).setCell (p := ⟨w.heap.size + 1, 1, none⟩) (by show w.heap.size ≤ w.heap.size + 1; omega) _).setCell (p := ⟨w.heap.size + 1, 2, none⟩) (by show w.heap.size ≤ w.heap.size + 1; omega) _).setCell (p := ⟨w.heap.size + 1, 3, none⟩) (by show w.heap.size ≤ w.heap.size + 1; omega) _).setCell (p := ⟨w.heap.size + 1, 4, none⟩) (by show w.heap.size ≤ w.heap.size + 1; omega) _).setCell (p := ⟨w.heap.size + 1, 5, none⟩) (by show w.heap.size ≤ w.heap.size + 1; omega) _).setCell (p := ⟨w.heap.size + 1, 6, none⟩) (by show w.heap.size ≤ w.heap.size + 1; omega) _
set_option maxHeartbeats 16000000 in
set_option maxRecDepth 100000 in
theorem i_EvenRotor (A L D : Option Addr) (ca cl cd : Nat) (a l d : List Nat) (c i : Int) (hub tip ch tu : Nat) (w : World) (h : Pf w A L D a l d) (hn : Few a l d) :
    Calls Try.prog 18 #[.agg #[.slice A a.length ca, .slice L l.length cl, .slice D d.length cd], .int .i64 c, .int .i64 i, .float .f32 hub, .float .f32 tip, .float .f32 ch, .float .f32 tu] w fun e w' => ∃ (R1 R2 R3 R4 : Option Addr) (c1 c2 c3 c4 g1 g2 g3 g4 : Nat), e = .returned (.tuple #[.agg #[.slice R1 (gLp (evO a l d c i hub tip ch tu) a).length c1, .slice R2 (gLp (evO a l d c i hub tip ch tu) l).length c2, .slice R3 (gLp (evO a l d c i hub tip ch tu) d).length c3, .slice R4 (gN (evO a l d c i hub tip ch tu) i.toNat) c4, .int .i64 (gC (evO a l d c i hub tip ch tu) c), .float .f32 (gN (evO a l d c i hub tip ch tu) hub), .float .f32 (gN (evO a l d c i hub tip ch tu) tip)], .bool (evO a l d c i hub tip ch tu)]) ∧ OwnT w' w.heap.size R1 R2 R3 R4 g1 g2 g3 g4 (gLp (evO a l d c i hub tip ch tu) a) (gLp (evO a l d c i hub tip ch tu) l) (gLp (evO a l d c i hub tip ch tu) d) (gLp (evO a l d c i hub tip ch tu) (evS i.toNat hub tip ch tu)) ∧ Below w.heap.size w w' := by
  have HP := Lib.hid h; clear h
  have HO : Hid (evO a l d c i hub tip ch tu = validR a l d (evS i.toNat hub tip ch tu) i.toNat c hub tip) := Lib.hid rfl
  have HON : Hid (validP a l d = false → evO a l d c i hub tip ch tu = false) := Lib.hid evO_p
  have HOZ : Hid (¬ (2 ≤ i ∧ i ≤ 12) → evO a l d c i hub tip ch tu = false) := Lib.hid evO_z
  generalize evO a l d c i hub tip ch tu = O at HO HON HOZ ⊢
  obtain ⟨n, HNI⟩ : ∃ n, Hid (n = i.toNat) := ⟨_, rfl⟩
  rw [← HNI.out] at HO ⊢
  have HSE : Hid ((evS n hub tip ch tu).length = n * 3 ∧ ∀ k, k < n → (evS n hub tip ch tu).getD (k * 3) 0 = evR n hub tip k ∧ (evS n hub tip ch tu).getD (k * 3 + 1) 0 = ch ∧ (evS n hub tip ch tu).getD (k * 3 + 2) 0 = tu) := Lib.hid ⟨evS_length, fun k hk => ⟨evS_0 hk, evS_1 hk, evS_2 hk⟩⟩
  generalize evS n hub tip ch tu = S' at HO HSE ⊢
  obtain ⟨w0, hw0⟩ : ∃ q, q = (w.alloc (.cells #[.slice A a.length ca, .slice L l.length cl, .slice D d.length cd] 27)).alloc (.cells #[.slice none 0 0, .slice none 0 0, .slice none 0 0, .slice none 0 0, .int .i64 0, .float .f32 0, .float .f32 0] 30) := ⟨_, rfl⟩
  have B0 : Hid (Below w.heap.size w w0) := Lib.hid (by rw [hw0]; exact ((Below.refl _ _).alloc (Nat.le_refl _) _).alloc (by simp) _)
  have K0 : Hid (BlkL w0 w.heap.size [.slice A a.length ca, .slice L l.length cl, .slice D d.length cd]) := Lib.hid (by rw [hw0]; exact (blkL_at w #[.slice A a.length ca, .slice L l.length cl, .slice D d.length cd] _ rfl).alloc _)
  have KR : Hid (BlkL w0 (w.heap.size + 1) [.slice none 0 0, .slice none 0 0, .slice none 0 0, .slice none 0 0, .int .i64 0, .float .f32 0, .float .f32 0]) := Lib.hid (by rw [hw0]; exact blkL_at (w.alloc _) #[.slice none 0 0, .slice none 0 0, .slice none 0 0, .slice none 0 0, .int .i64 0, .float .f32 0, .float .f32 0] _ (by simp))
  have Z0 : Hid (w0.heap.size = w.heap.size + 2) := Lib.hid (by rw [hw0]; simp)
  by_cases hc : 2 ≤ i ∧ i ≤ 12
  · have hin : i = (n : Int) := by have := HNI.out; omega
    have hnb : 2 ≤ n ∧ n ≤ 12 := by omega
    clear HNI HOZ hc
    subst hin
    have HNW := Lib.hid hn
    clear hn
    obtain ⟨bk, hbk⟩ : ∃ q, q = w0.heap.size := ⟨_, rfl⟩
    obtain ⟨w1, hw1⟩ : ∃ q, q = w0.alloc (.cells (madeCells #[.float .f32 0, .float .f32 0, .float .f32 0] (n * 3)) 47) := ⟨_, rfl⟩
    have hmk : (Instr.makeSlice 28 (.int .i64 n) (.int .i64 n)).run Try.prog w0 = .ok (.slice (some ⟨bk, 0, none⟩) n n) w1 := by rw [hw1, hbk]; exact make_st n w0 (by omega)
    have b : Below w0.heap.size w0 w1 := by rw [hw1]; exact (Below.refl _ _).alloc (Nat.le_refl _) _
    have HO1 : Hid (Own w1 bk (List.replicate (n * 3) 0)) := Lib.hid (by rw [hw1, hbk]; exact Own.made3 w0 n _)
    have L1 : Hid (BlkL w1 w.heap.size [.slice A a.length ca, .slice L l.length cl, .slice D d.length cd]) := Lib.hid (K0.out.below b)
    have LR : Hid (BlkL w1 (w.heap.size + 1) [.slice none 0 0, .slice none 0 0, .slice none 0 0, .slice none 0 0, .int .i64 0, .float .f32 0, .float .f32 0]) := Lib.hid (KR.out.below b)
    have B1 : Hid (Below w.heap.size w w1) := Lib.hid (below_of B0.out B0.out.size b)
    have HLV : Hid (w.heap.size + 2 ≤ bk) := Lib.hid (by have := Z0.out; omega)
    clear b hw1 hbk K0 KR B0 Z0
    have hq1 : (2 : Int) ≤ (n : Int) := by omega
    have hq2 : (n : Int) ≤ 12 := by omega
    go_enter Try.func18, Try.ntmps18
    go_upto_region 1 with fail
    rw [← hw0]
    clear hw0
    go_wp2
    clear hmk
    go_loopw [30] (fun i wr => ∃ (k : Nat) (xs : List Nat), k ≤ n ∧ i = .int .i64 k ∧ Hid (Mid (List.replicate (n * 3) 0) S' k xs) ∧ Hid (Own wr bk xs) ∧ Hid (Turn w1 wr (fun b => b = bk))) (fun i _ => n - (intOf i).toNat)
    case atStart => exact ⟨0, _, Nat.zero_le _, rfl, Lib.hid (Mid.zero _ _), HO1, Lib.hid (Turn.refl _ _)⟩
    case round =>
      obtain ⟨k, xs, hk, rfl, HM, HQ, HT⟩ := hrel
      clear HO1
      have HXL : Hid (xs.length = n * 3) := Lib.hid (HM.out.1.trans (by simp))
      by_cases hlt : k < n
      · go_wp2_with fail
        refine (i_betweenE hub tip _ _).mono ?_
        rintro e w2 ⟨r, m, rfl, hr, hw2⟩
        have HRR : Hid (canon .f32 r = canon .f32 (evR n hub tip k)) := Lib.hid (evR_impl (by rw [canon_fopV, canon_fopV]; rfl) hr)
        have b : Below wr.heap.size wr w2 := by rw [hw2]; exact below_draws (below_draws (Below.refl _ _) _) _
        clear hr hw2
        have HQ2 : Hid (Own w2 bk xs) := Lib.hid (HQ.out.below b)
        have HT2 : Hid (Turn w1 w2 (fun b => b = bk)) := Lib.hid (HT.out.trans (Turn.of_below b _))
        clear b HQ HT
        obtain ⟨x0, f0⟩ := HQ2.out.2 (k * 3) (by rw [HXL.out]; omega)
        obtain ⟨x1, f1⟩ := HQ2.out.2 (k * 3 + 1) (by rw [HXL.out]; omega)
        obtain ⟨x2, f2⟩ := HQ2.out.2 (k * 3 + 2) (by rw [HXL.out]; omega)
        have hl2 : k * 3 + 2 < xs.length := by rw [HXL.out]; omega
        have HM3 : Hid (Mid (List.replicate (n * 3) 0) S' (k + 1) (setSt xs k r ch tu)) := Lib.hid (HM.out.put hlt (by simp) (setSt_length ..) (by rw [setSt_0 hl2, HRR.out, (HSE.out.2 k hlt).1]) (by rw [setSt_1 hl2, (HSE.out.2 k hlt).2.1]) (by rw [setSt_2 hl2, (HSE.out.2 k hlt).2.2]) (fun j h0 h1 h2 => setSt_o hl2 h0 h1 h2))
        have HQ3 := Lib.hid (HQ2.out.putSt (x := r) (y := ch) (z := tu) HXL.out hlt)
        have HT3 : Hid (Turn w1 (((w2.setCell ⟨bk, k * 3, none⟩ (.float .f32 r)).setCell ⟨bk, k * 3 + 1, none⟩ (.float .f32 ch)).setCell ⟨bk, k * 3 + 2, none⟩ (.float .f32 tu)) (fun b => b = bk)) := Lib.hid (((HT2.out.trans (Turn.set _ ⟨bk, k * 3, none⟩ rfl _)).trans (Turn.set _ ⟨bk, k * 3 + 1, none⟩ rfl _)).trans (Turn.set _ ⟨bk, k * 3 + 2, none⟩ rfl _))
        clear hl2 HM HQ2 HT2 HRR
        go_wp2
        go_roundw
        case rel => exact ⟨k + 1, _, by omega, by go_num, HM3, HQ3, HT3⟩
        case measure => simp [intOf]; omega
      · have hkk : k = n := by omega
        subst hkk
        have e1 := HLV.out
        have HXC := Lib.hid (HM.out.cl (n := k) (by simp) (by rw [HSE.out.1]; simp))
        have HX : Hid (validR a l d xs k c hub tip = validR a l d S' k c hub tip ∧ (validR a l d S' k c hub tip = true → xs = S' ∧ hub = hub ∧ tip = tip)) := Lib.hid (validR_CL HXC.out HXL.out rfl rfl)
        have HBL : Hid (BlkL wr w.heap.size [.slice A a.length ca, .slice L l.length cl, .slice D d.length cd]) := Lib.hid (L1.out.turnS HT.out (by show ¬ w.heap.size = bk; omega))
        have LRR : Hid (BlkL wr (w.heap.size + 1) [.slice none 0 0, .slice none 0 0, .slice none 0 0, .slice none 0 0, .int .i64 0, .float .f32 0, .float .f32 0]) := Lib.hid (LR.out.turnS HT.out (by show ¬ w.heap.size + 1 = bk; omega))
        have BR : Hid (Below w.heap.size w wr) := Lib.hid (HT.out.2.2.2 w B1.out (fun b hb => by have hb : b = bk := hb; omega))
        have HOW := HQ
        have HPR : Hid (Pf wr A L D a l d) := Lib.hid ⟨HP.out.1.below BR.out, HP.out.2.1.below BR.out, HP.out.2.2.below BR.out⟩
        have HRT : Hid (Rt wr A L D (some ⟨bk, 0, none⟩) a l d xs) := Lib.hid ⟨HPR.out, HOW.out.fl⟩
        have HZW : Hid (w.heap.size + 2 ≤ wr.heap.size) := Lib.hid (by have := HOW.out.1; omega)
        obtain ⟨k0, k1, k2⟩ := HBL.out.three
        clear e1 HXC HM HT L1 LR B1 hlt hk
        cases v0 : validP a l d
        · have HN := Lib.hid (HON.out v0)
          have HE := Lib.hid (i_withOwn_p A L D (some ⟨bk, 0, none⟩) ca cl cd k k c hub tip a l d wr HPR.out HNW.out v0)
          clear v0 HON
          go_wp2_with fail
          refine HE.out.mono ?_
          rintro e w6 ⟨rfl, b6⟩
          have B6 : Hid (Below w.heap.size w w6) := Lib.hid (below_of BR.out BR.out.size b6)
          have LR6 : Hid (BlkL w6 (w.heap.size + 1) [.slice none 0 0, .slice none 0 0, .slice none 0 0, .slice none 0 0, .int .i64 0, .float .f32 0, .float .f32 0]) := Lib.hid (LRR.out.below b6)
          clear b6 k0 k1 k2
          have p0 := (LR6.out.2 0 _ rfl).1
          have q0 := (LR6.out.2 0 _ rfl).2
          have p1 := (LR6.out.2 1 _ rfl).1
          have q1 := (LR6.out.2 1 _ rfl).2
          have p2 := (LR6.out.2 2 _ rfl).1
          have q2 := (LR6.out.2 2 _ rfl).2
          have p3 := (LR6.out.2 3 _ rfl).1
          have q3 := (LR6.out.2 3 _ rfl).2
          have p4 := (LR6.out.2 4 _ rfl).1
          have q4 := (LR6.out.2 4 _ rfl).2
          have p5 := (LR6.out.2 5 _ rfl).1
          have q5 := (LR6.out.2 5 _ rfl).2
          have p6 := (LR6.out.2 6 _ rfl).1
          have q6 := (LR6.out.2 6 _ rfl).2
          go_wp2
          refine bodyPost_ret (v := .tuple #[.agg #[.slice none 0 0, .slice none 0 0, .slice none 0 0, .slice none 0 0, .int .i64 0, .float .f32 0, .float .f32 0], .bool false]) ?_ rfl ?_
          · simp [results, Try.results18, go_sem, p0, p1, p2, p3, p4, p5, p6]
          · rw [HN.out]
            exact ⟨none, none, none, none, 0, 0, 0, 0, 0, 1, 2, 3, rfl, OwnT.none _ _, (((((((B6.out).setCell (p := ⟨w.heap.size + 1, 0, none⟩) (by show w.heap.size ≤ w.heap.size + 1; omega) _).setCell (p := ⟨w.heap.size + 1, 1, none⟩) (by show w.heap.size ≤ w.heap.size + 1; omega) _).setCell (p := ⟨w.heap.size + 1, 2, none⟩) (by show w.heap.size ≤ w.heap.size + 1; omega) _).setCell (p := ⟨w.heap.size + 1, 3, none⟩) (by show w.heap.size ≤ w.heap.size + 1; omega) _).setCell (p := ⟨w.heap.size + 1, 4, none⟩) (by show w.heap.size ≤ w.heap.size + 1; omega) _).setCell (p := ⟨w.heap.size + 1, 5, none⟩) (by show w.heap.size ≤ w.heap.size + 1; omega) _).setCell (p := ⟨w.heap.size + 1, 6, none⟩) (by show w.heap.size ≤ w.heap.size + 1; omega) _⟩
        · obtain ⟨s1, s2, s3, s4⟩ := sized_of v0
          have HFW : Hid (FewR a l d xs k) := Lib.hid ⟨HXL.out, by omega⟩
          clear v0 HON s1 s2 s3 s4
          cases v : validR a l d xs k c hub tip
          · have HN : Hid (O = false) := Lib.hid (by rw [HO.out, ← HX.out.1, v])
            have HE := Lib.hid (i_withOwn_no A L D (some ⟨bk, 0, none⟩) ca cl cd k k c hub tip a l d xs wr HRT.out HFW.out v)
            clear v
            go_wp2_with fail
            refine HE.out.mono ?_
            rintro e w6 ⟨rfl, b6⟩
            have B6 : Hid (Below w.heap.size w w6) := Lib.hid (below_of BR.out BR.out.size b6)
            have LR6 : Hid (BlkL w6 (w.heap.size + 1) [.slice none 0 0, .slice none 0 0, .slice none 0 0, .slice none 0 0, .int .i64 0, .float .f32 0, .float .f32 0]) := Lib.hid (LRR.out.below b6)
            clear b6
            try clear k0 k1 k2 k3 k4 k5 k6
            have p0 := (LR6.out.2 0 _ rfl).1
            have q0 := (LR6.out.2 0 _ rfl).2
            have p1 := (LR6.out.2 1 _ rfl).1
            have q1 := (LR6.out.2 1 _ rfl).2
            have p2 := (LR6.out.2 2 _ rfl).1
            have q2 := (LR6.out.2 2 _ rfl).2
            have p3 := (LR6.out.2 3 _ rfl).1
            have q3 := (LR6.out.2 3 _ rfl).2
            have p4 := (LR6.out.2 4 _ rfl).1
            have q4 := (LR6.out.2 4 _ rfl).2
            have p5 := (LR6.out.2 5 _ rfl).1
            have q5 := (LR6.out.2 5 _ rfl).2
            have p6 := (LR6.out.2 6 _ rfl).1
            have q6 := (LR6.out.2 6 _ rfl).2
            go_wp2
            refine bodyPost_ret (v := .tuple #[.agg #[.slice none 0 0, .slice none 0 0, .slice none 0 0, .slice none 0 0, .int .i64 0, .float .f32 0, .float .f32 0], .bool false]) ?_ rfl ?_
            · simp [results, Try.results18, go_sem, p0, p1, p2, p3, p4, p5, p6]
            · rw [HN.out]
              exact ⟨none, none, none, none, 0, 0, 0, 0, 0, 1, 2, 3, rfl, OwnT.none _ _, (((((((B6.out).setCell (p := ⟨w.heap.size + 1, 0, none⟩) (by show w.heap.size ≤ w.heap.size + 1; omega) _).setCell (p := ⟨w.heap.size + 1, 1, none⟩) (by show w.heap.size ≤ w.heap.size + 1; omega) _).setCell (p := ⟨w.heap.size + 1, 2, none⟩) (by show w.heap.size ≤ w.heap.size + 1; omega) _).setCell (p := ⟨w.heap.size + 1, 3, none⟩) (by show w.heap.size ≤ w.heap.size + 1; omega) _).setCell (p := ⟨w.heap.size + 1, 4, none⟩) (by show w.heap.size ≤ w.heap.size + 1; omega) _).setCell (p := ⟨w.heap.size + 1, 5, none⟩) (by show w.heap.size ≤ w.heap.size + 1; omega) _).setCell (p := ⟨w.heap.size + 1, 6, none⟩) (by show w.heap.size ≤ w.heap.size + 1; omega) _⟩
          · have HN : Hid (O = true) := Lib.hid (by rw [HO.out, ← HX.out.1, v])
            obtain ⟨EQ, EQh, EQt⟩ := HX.out.2 (by rw [← HX.out.1, v])
            subst EQ
            have HE := Lib.hid (i_withOwn_yes A L D (some ⟨bk, 0, none⟩) ca cl cd k k c hub tip a l d xs wr HRT.out HFW.out v)
            clear v
            go_wp2_with fail
            refine HE.out.mono ?_
            rintro e w6 ⟨b1, b2, b3, c1, c2, c3, rfl, h3, b6⟩
            have B6 : Hid (Below w.heap.size w w6) := Lib.hid (below_of BR.out BR.out.size b6)
            have LR6 : Hid (BlkL w6 (w.heap.size + 1) [.slice none 0 0, .slice none 0 0, .slice none 0 0, .slice none 0 0, .int .i64 0, .float .f32 0, .float .f32 0]) := Lib.hid (LRR.out.below b6)
            have HT6 : Hid (OwnT w6 (w.heap.size + 2) (some ⟨b1, 0, none⟩) (some ⟨b2, 0, none⟩) (some ⟨b3, 0, none⟩) (some ⟨bk, 0, none⟩) b1 b2 b3 bk a l d xs) := Lib.hid (by
              obtain ⟨o1, o2, o3, g1, g2, g3, n1, n2, n3⟩ := h3
              have e1 := HLV.out
              have e2 := HOW.out.1
              have e3 := HZW.out
              exact ⟨⟨o1.o (by omega), o2.o (by omega), o3.o (by omega), n1, n2, n3⟩, (HOW.out.below b6).o (by omega), by omega, by omega, by omega⟩)
            clear b6 h3
            try clear k0 k1 k2 k3 k4 k5 k6
            have p0 := (LR6.out.2 0 _ rfl).1
            have q0 := (LR6.out.2 0 _ rfl).2
            have p1 := (LR6.out.2 1 _ rfl).1
            have q1 := (LR6.out.2 1 _ rfl).2
            have p2 := (LR6.out.2 2 _ rfl).1
            have q2 := (LR6.out.2 2 _ rfl).2
            have p3 := (LR6.out.2 3 _ rfl).1
            have q3 := (LR6.out.2 3 _ rfl).2
            have p4 := (LR6.out.2 4 _ rfl).1
            have q4 := (LR6.out.2 4 _ rfl).2
            have p5 := (LR6.out.2 5 _ rfl).1
            have q5 := (LR6.out.2 5 _ rfl).2
            have p6 := (LR6.out.2 6 _ rfl).1
            have q6 := (LR6.out.2 6 _ rfl).2
            go_wp2
            refine bodyPost_ret (v := .tuple #[.agg #[.slice (some ⟨b1, 0, none⟩) a.length c1, .slice (some ⟨b2, 0, none⟩) l.length c2, .slice (some ⟨b3, 0, none⟩) d.length c3, .slice (some ⟨bk, 0, none⟩) k k, .int .i64 c, .float .f32 hub, .float .f32 tip], .bool true]) ?_ rfl ?_
            · simp [results, Try.results18, go_sem, p0, p1, p2, p3, p4, p5, p6]
            · rw [HN.out]
              exact ⟨_, _, _, _, c1, c2, c3, k, b1, b2, b3, bk, rfl, ((((((((HT6.out).setT (p := ⟨w.heap.size + 1, 0, none⟩) (by show w.heap.size + 1 < _; omega) _).setT (p := ⟨w.heap.size + 1, 1, none⟩) (by show w.heap.size + 1 < _; omega) _).setT (p := ⟨w.heap.size + 1, 2, none⟩) (by show w.heap.size + 1 < _; omega) _).setT (p := ⟨w.heap.size + 1, 3, none⟩) (by show w.heap.size + 1 < _; omega) _).setT (p := ⟨w.heap.size + 1, 4, none⟩) (by show w.heap.size + 1 < _; omega) _).setT (p := ⟨w.heap.size + 1, 5, none⟩) (by show w.heap.size + 1 < _; omega) _).setT (p := ⟨w.heap.size + 1, 6, none⟩) (by show w.heap.size + 1 < _; omega) _).baseT (by omega), (((((((B6.out).setCell (p := ⟨w.heap.size + 1, 0, none⟩) (by show w.heap.size ≤ w.heap.size + 1; omega) _).setCell (p := ⟨w.heap.size + 1, 1, none⟩) (by show w.heap.size ≤ w.heap.size + 1; omega) _).setCell (p := ⟨w.heap.size + 1, 2, none⟩) (by show w.heap.size ≤ w.heap.size + 1; omega) _).setCell (p := ⟨w.heap.size + 1, 3, none⟩) (by show w.heap.size ≤ w.heap.size + 1; omega) _).setCell (p := ⟨w.heap.size + 1, 4, none⟩) (by show w.heap.size ≤ w.heap.size + 1; omega) _).setCell (p := ⟨w.heap.size + 1, 5, none⟩) (by show w.heap.size ≤ w.heap.size + 1; omega) _).setCell (p := ⟨w.heap.size + 1, 6, none⟩) (by show w.heap.size ≤ w.heap.size + 1; omega) _⟩
  · have HN := Lib.hid (HOZ.out hc)
    have hcc : i < 2 ∨ 2 ≤ i ∧ 12 < i := by omega
    clear hc hn
    rcases hcc with hcc | ⟨hc1, hc2⟩
    · go_enter Try.func18, Try.ntmps18
      go_upto_region 1 with fail
      rw [← hw0]
      clear hw0
      have p0 := (KR.out.2 0 _ rfl).1
      have q0 := (KR.out.2 0 _ rfl).2
      have p1 := (KR.out.2 1 _ rfl).1
      have q1 := (KR.out.2 1 _ rfl).2
      have p2 := (KR.out.2 2 _ rfl).1
      have q2 := (KR.out.2 2 _ rfl).2
      have p3 := (KR.out.2 3 _ rfl).1
      have q3 := (KR.out.2 3 _ rfl).2
      have p4 := (KR.out.2 4 _ rfl).1
      have q4 := (KR.out.2 4 _ rfl).2
      have p5 := (KR.out.2 5 _ rfl).1
      have q5 := (KR.out.2 5 _ rfl).2
      have p6 := (KR.out.2 6 _ rfl).1
      have q6 := (KR.out.2 6 _ rfl).2
      go_wp2
      refine bodyPost_ret (v := .tuple #[.agg #[.slice none 0 0, .slice none 0 0, .slice none 0 0, .slice none 0 0, .int .i64 0, .float .f32 0, .float .f32 0], .bool false]) ?_ rfl ?_
      · simp [results, Try.results18, go_sem, p0, p1, p2, p3, p4, p5, p6]
      · rw [HN.out]
        exact ⟨none, none, none, none, 0, 0, 0, 0, 0, 1, 2, 3, rfl, OwnT.none _ _, (((((((B0.out).setCell (p := ⟨w.heap.size + 1, 0, none⟩) (by show w.heap.size ≤ w.heap.size + 1; omega) _).setCell (p := ⟨w.heap.size + 1, 1, none⟩) (by show w.heap.size ≤ w.heap.size + 1; omega) _).setCell (p := ⟨w.heap.size + 1, 2, none⟩) (by show w.heap.size ≤ w.heap.size + 1; omega) _).setCell (p := ⟨w.heap.size + 1, 3, none⟩) (by show w.heap.size ≤ w.heap.size + 1; omega) _).setCell (p := ⟨w.heap.size + 1, 4, none⟩) (by show w.heap.size ≤ w.heap.size + 1; omega) _).setCell (p := ⟨w.heap.size + 1, 5, none⟩) (by show w.heap.size ≤ w.heap.size + 1; omega) _).setCell (p := ⟨w.heap.size + 1, 6, none⟩) (by show w.heap.size ≤ w.heap.size + 1; omega) _⟩
    · go_enter Try.func18, Try.ntmps18
      go_upto_region 1 with fail
      rw [← hw0]
      clear hw0
      have p0 := (KR.out.2 0 _ rfl).1
      have q0 := (KR.out.2 0 _ rfl).2
      have p1 := (KR.out.2 1 _ rfl).1
      have q1 := (KR.out.2 1 _ rfl).2
      have p2 := (KR.out.2 2 _ rfl).1
      have q2 := (KR.out.2 2 _ rfl).2
      have p3 := (KR.out.2 3 _ rfl).1
      have q3 := (KR.out.2 3 _ rfl).2
      have p4 := (KR.out.2 4 _ rfl).1
      have q4 := (KR.out.2 4 _ rfl).2
      have p5 := (KR.out.2 5 _ rfl).1
      have q5 := (KR.out.2 5 _ rfl).2
      have p6 := (KR.out.2 6 _ rfl).1
      have q6 := (KR.out.2 6 _ rfl).2
      go_wp2
      refine bodyPost_ret (v := .tuple #[.agg #[.slice none 0 0, .slice none 0 0, .slice none 0 0, .slice none 0 0, .int .i64 0, .float .f32 0, .float .f32 0], .bool false]) ?_ rfl ?_
      · simp [results, Try.results18, go_sem, p0, p1, p2, p3, p4, p5, p6]
      · rw [HN.out]
        exact ⟨none, none, none, none, 0, 0, 0, 0, 0, 1, 2, 3, rfl, OwnT.none _ _, (((((((B0.out).setCell (p := ⟨w.heap.size + 1, 0, none⟩) (by show w.heap.size ≤ w.heap.size + 1; omega) _).setCell (p := ⟨w.heap.size + 1, 1, none⟩) (by show w.heap.size ≤ w.heap.size + 1; omega) _).setCell (p := ⟨w.heap.size + 1, 2, none⟩) (by show w.heap.size ≤ w.heap.size + 1; omega) _).setCell (p := ⟨w.heap.size + 1, 3, none⟩) (by show w.heap.size ≤ w.heap.size + 1; omega) _).setCell (p := ⟨w.heap.size + 1, 4, none⟩) (by show w.heap.size ≤ w.heap.size + 1; omega) _).setCell (p := ⟨w.heap.size + 1, 5, none⟩) (by show w.heap.size ≤ w.heap.size + 1; omega) _).setCell (p := ⟨w.heap.size + 1, 6, none⟩) (by show w.heap.size ≤ w.heap.size + 1; omega) _⟩
set_option maxHeartbeats 16000000 in
set_option maxRecDepth 100000 in
theorem s_EvenRotor (A L D : Option Addr) (ca cl cd : Nat) (a l d : List Nat) (c i : Int) (hub tip ch tu : Nat) (w : World) (h : Pf w A L D a l d) (hn : Few a l d) :
    Calls Try.prog 16 #[.agg #[.slice A a.length ca, .slice L l.length cl, .slice D d.length cd], .int .i64 c, .int .i64 i, .float .f32 hub, .float .f32 tip, .float .f32 ch, .float .f32 tu] w fun e w' => ∃ (R1 R2 R3 R4 : Option Addr) (c1 c2 c3 c4 g1 g2 g3 g4 : Nat), e = .returned (.tuple #[.agg #[.slice R1 (gLp (evO a l d c i hub tip ch tu) a).length c1, .slice R2 (gLp (evO a l d c i hub tip ch tu) l).length c2, .slice R3 (gLp (evO a l d c i hub tip ch tu) d).length c3, .slice R4 (gN (evO a l d c i hub tip ch tu) i.toNat) c4, .int .i64 (gC (evO a l d c i hub tip ch tu) c), .float .f32 (gN (evO a l d c i hub tip ch tu) hub), .float .f32 (gN (evO a l d c i hub tip ch tu) tip)], .bool (evO a l d c i hub tip ch tu)]) ∧ OwnT w' w.heap.size R1 R2 R3 R4 g1 g2 g3 g4 (gLp (evO a l d c i hub tip ch tu) a) (gLp (evO a l d c i hub tip ch tu) l) (gLp (evO a l d c i hub tip ch tu) d) (gLp (evO a l d c i hub tip ch tu) (evS i.toNat hub tip ch tu)) ∧ Below w.heap.size w w' := by
  have HP := Lib.hid h; clear h
  have HO : Hid (evO a l d c i hub tip ch tu = validR a l d (evS i.toNat hub tip ch tu) i.toNat c hub tip) := Lib.hid rfl
  have HON : Hid (validP a l d = false → evO a l d c i hub tip ch tu = false) := Lib.hid evO_p
  have HOZ : Hid (¬ (2 ≤ i ∧ i ≤ 12) → evO a l d c i hub tip ch tu = false) := Lib.hid evO_z
  generalize evO a l d c i hub tip ch tu = O at HO HON HOZ ⊢
  obtain ⟨n, HNI⟩ : ∃ n, Hid (n = i.toNat) := ⟨_, rfl⟩
  rw [← HNI.out] at HO ⊢
  have HSE : Hid ((evS n hub tip ch tu).length = n * 3 ∧ ∀ k, k < n → (evS n hub tip ch tu).getD (k * 3) 0 = evR n hub tip k ∧ (evS n hub tip ch tu).getD (k * 3 + 1) 0 = ch ∧ (evS n hub tip ch tu).getD (k * 3 + 2) 0 = tu) := Lib.hid ⟨evS_length, fun k hk => ⟨evS_0 hk, evS_1 hk, evS_2 hk⟩⟩
  generalize evS n hub tip ch tu = S' at HO HSE ⊢
  obtain ⟨i0, hi, hz0, hz1, hz2⟩ := info_parts st_infoT
  obtain ⟨w0, hw0⟩ : ∃ q, q = (w.alloc (.cells #[.slice A a.length ca, .slice L l.length cl, .slice D d.length cd] 27)).alloc (.cells #[.slice none 0 0, .slice none 0 0, .slice none 0 0, .slice none 0 0, .int .i64 0, .float .f32 0, .float .f32 0] 30) := ⟨_, rfl⟩
  have B0 : Hid (Below w.heap.size w w0) := Lib.hid (by rw [hw0]; exact ((Below.refl _ _).alloc (Nat.le_refl _) _).alloc (by simp) _)
  have K0 : Hid (BlkL w0 w.heap.size [.slice A a.length ca, .slice L l.length cl, .slice D d.length cd]) := Lib.hid (by rw [hw0]; exact (blkL_at w #[.slice A a.length ca, .slice L l.length cl, .slice D d.length cd] _ rfl).alloc _)
  have KR : Hid (BlkL w0 (w.heap.size + 1) [.slice none 0 0, .slice none 0 0, .slice none 0 0, .slice none 0 0, .int .i64 0, .float .f32 0, .float .f32 0]) := Lib.hid (by rw [hw0]; exact blkL_at (w.alloc _) #[.slice none 0 0, .slice none 0 0, .slice none 0 0, .slice none 0 0, .int .i64 0, .float .f32 0, .float .f32 0] _ (by simp))
  have Z0 : Hid (w0.heap.size = w.heap.size + 2) := Lib.hid (by rw [hw0]; simp)
  go_enter Try.func16, Try.ntmps16
  go_wp2_with fail
  rw [← hw0]
  clear hw0
  refine (s_l02Is A L D ca cl cd a l d w.heap.size _ (HP.out.below B0.out) (blk3_ofL K0.out) hn).mono ?_
  rintro e w1 ⟨m, rfl, hw1⟩
  have b : Below w0.heap.size w0 w1 := by rw [hw1]; exact below_draws (Below.refl _ _) _
  clear hw1
  have L0 : Hid (BlkL w1 w.heap.size [.slice A a.length ca, .slice L l.length cl, .slice D d.length cd]) := Lib.hid (K0.out.below b)
  have LR : Hid (BlkL w1 (w.heap.size + 1) [.slice none 0 0, .slice none 0 0, .slice none 0 0, .slice none 0 0, .int .i64 0, .float .f32 0, .float .f32 0]) := Lib.hid (KR.out.below b)
  have B1 : Hid (Below w.heap.size w w1) := Lib.hid (below_of B0.out B0.out.size b)
  have Z1 : Hid (w.heap.size + 2 ≤ w1.heap.size) := Lib.hid (by have := b.size; have := Z0.out; omega)
  clear b K0 KR B0 Z0
  cases v0 : validP a l d
  · have HN := Lib.hid (HON.out v0)
    clear v0
    have p0 := (LR.out.2 0 _ rfl).1
    have q0 := (LR.out.2 0 _ rfl).2
    have p1 := (LR.out.2 1 _ rfl).1
    have q1 := (LR.out.2 1 _ rfl).2
    have p2 := (LR.out.2 2 _ rfl).1
    have q2 := (LR.out.2 2 _ rfl).2
    have p3 := (LR.out.2 3 _ rfl).1
    have q3 := (LR.out.2 3 _ rfl).2
    have p4 := (LR.out.2 4 _ rfl).1
    have q4 := (LR.out.2 4 _ rfl).2
    have p5 := (LR.out.2 5 _ rfl).1
    have q5 := (LR.out.2 5 _ rfl).2
    have p6 := (LR.out.2 6 _ rfl).1
    have q6 := (LR.out.2 6 _ rfl).2
    go_wp2
    refine bodyPost_ret (v := .tuple #[.agg #[.slice none 0 0, .slice none 0 0, .slice none 0 0, .slice none 0 0, .int .i64 0, .float .f32 0, .float .f32 0], .bool false]) ?_ rfl ?_
    · simp [results, Try.results16, go_sem, p0, p1, p2, p3, p4, p5, p6]
    · rw [HN.out]
      exact ⟨none, none, none, none, 0, 0, 0, 0, 0, 1, 2, 3, rfl, OwnT.none _ _, (((((((B1.out).setCell (p := ⟨w.heap.size + 1, 0, none⟩) (by show w.heap.size ≤ w.heap.size + 1; omega) _).setCell (p := ⟨w.heap.size + 1, 1, none⟩) (by show w.heap.size ≤ w.heap.size + 1; omega) _).setCell (p := ⟨w.heap.size + 1, 2, none⟩) (by show w.heap.size ≤ w.heap.size + 1; omega) _).setCell (p := ⟨w.heap.size + 1, 3, none⟩) (by show w.heap.size ≤ w.heap.size + 1; omega) _).setCell (p := ⟨w.heap.size + 1, 4, none⟩) (by show w.heap.size ≤ w.heap.size + 1; omega) _).setCell (p := ⟨w.heap.size + 1, 5, none⟩) (by show w.heap.size ≤ w.heap.size + 1; omega) _).setCell (p := ⟨w.heap.size + 1, 6, none⟩) (by show w.heap.size ≤ w.heap.size + 1; omega) _⟩
  · obtain ⟨s1, s2, s3, s4⟩ := sized_of v0
    have h1 : 1 ≤ a.length := by omega
    have h2 : 1 ≤ l.length := by omega
    have h3 : 1 ≤ d.length := by omega
    have HNW := Lib.hid hn
    have HSM : Hid (a.length + l.length + d.length + 12 ≤ 1048576) := Lib.hid (by omega)
    clear v0 HON s1 s2 s3 s4 hn
    go_wp2_with fail
    refine (s_l00In _ _ _ _).mono ?_
    rintro e wq ⟨rfl, hwq⟩
    rw [hwq]
    clear hwq
    by_cases hc : 2 ≤ i ∧ i ≤ 12
    · rw [show (decide ((2 : Int) ≤ i) && decide (i ≤ 12)) = true by simp [hc]]
      have hin : i = (n : Int) := by have := HNI.out; omega
      have hnb : 2 ≤ n ∧ n ≤ 12 := by omega
      clear HNI HOZ hc
      subst hin
      go_wp2_with fail
      refine (s_l02Own A L D ca cl cd w.heap.size a l d _ (HP.out.below B1.out) HNW.out h1 h2 h3 L0.out).mono ?_
      rintro e w2 ⟨b1, b2, b3, c1, c2, c3, rfl, o1, o2, o3, g1, g2, g3, b⟩
      obtain ⟨wb, hwb⟩ : ∃ q, q = w2.alloc (.cells #[.slice (some ⟨b1, 0, none⟩) a.length c1, .slice (some ⟨b2, 0, none⟩) l.length c2, .slice (some ⟨b3, 0, none⟩) d.length c3, .slice none 0 0, .int .i64 c, .float .f32 hub, .float .f32 tip] 30) := ⟨_, rfl⟩
      have bb : Below w2.heap.size w2 wb := by rw [hwb]; exact (Below.refl _ _).alloc (Nat.le_refl _) _
      have bq := below_of b b.size bb
      obtain ⟨BC, hBC⟩ : ∃ q, q = w2.heap.size := ⟨_, rfl⟩
      have KB : Hid (BlkL wb BC [.slice (some ⟨b1, 0, none⟩) a.length c1, .slice (some ⟨b2, 0, none⟩) l.length c2, .slice (some ⟨b3, 0, none⟩) d.length c3, .slice none 0 0, .int .i64 c, .float .f32 hub, .float .f32 tip]) := Lib.hid (by rw [hwb, hBC]; exact blkL_at w2 #[_, _, _, _, _, _, _] _ rfl)
      have KR : Hid (BlkL wb (w.heap.size + 1) [.slice none 0 0, .slice none 0 0, .slice none 0 0, .slice none 0 0, .int .i64 0, .float .f32 0, .float .f32 0]) := Lib.hid (LR.out.below bq)
      have Q1 := Lib.hid (o1.below bb)
      have Q2 := Lib.hid (o2.below bb)
      have Q3 := Lib.hid (o3.below bb)
      have HLV : Hid (w.heap.size + 2 ≤ b1 ∧ b1 < b2 ∧ b2 < b3 ∧ b3 < BC ∧ BC < wb.heap.size) := Lib.hid (by have := Z1.out; have := o3.1; rw [hwb, hBC]; refine ⟨by omega, by omega, by omega, by omega, by simp⟩)
      have BB : Hid (Below w.heap.size w wb) := Lib.hid (below_of B1.out B1.out.size bq)
      clear o1 o2 o3 g1 g2 g3 b bb bq L0 LR B1 h1 h2 h3
      go_upto_region 4 with fail
      rw [← hwb, ← hBC]
      clear hwb hBC
      go_wp2
      go_loopw [17] (fun i wr => ∃ (k : Nat) (v : Value) (xs : List Nat), k ≤ n ∧ i = .int .i64 k ∧ Hid (Gr3 wr wb.heap.size v k xs) ∧ Hid (Pre3 S' xs k) ∧ Hid (BlkL wr BC [.slice (some ⟨b1, 0, none⟩) a.length c1, .slice (some ⟨b2, 0, none⟩) l.length c2, .slice (some ⟨b3, 0, none⟩) d.length c3, v, .int .i64 c, .float .f32 hub, .float .f32 tip]) ∧ Hid (Turn wb wr (fun b => b = BC))) (fun i _ => n - (intOf i).toNat)
      case atStart => exact ⟨0, _, [], Nat.zero_le _, rfl, Lib.hid (World.ownsRow_nil _ _ _ _), Lib.hid (Pre3.nil _), KB, Lib.hid (Turn.refl _ _)⟩
      case round =>
        obtain ⟨k, v, xs, hk, rfl, HG, HM, HBL, HT⟩ := hrel
        by_cases hlt : k < n
        · go_upto_region 8 with fail
          obtain ⟨q0, q, wq, HQ⟩ : ∃ q0 q wq, Hid (q0 = fopV .add .f32 (floatOfInt .f32 (k : Int)) 1056964608 wr ∧ q = fopV .quo .f32 q0 (floatOfInt .f32 (n : Int)) (wr.drewN (fopN .add .f32 (floatOfInt .f32 (k : Int)) 1056964608)) ∧ wq = wr.drewN (fopN .add .f32 (floatOfInt .f32 (k : Int)) 1056964608 + fopN .quo .f32 q0 (floatOfInt .f32 (n : Int)))) := ⟨_, _, _, rfl, rfl, rfl⟩
          rw [← HQ.out.1, ← HQ.out.2.1, ← HQ.out.2.2]
          have HQC : Hid (canon .f32 q = evQ n k) := Lib.hid (by rw [HQ.out.2.1, canon_fopV, HQ.out.1, canon_fopV]; rfl)
          have HG1 : Hid (Gr3 wq wb.heap.size v k xs) := Lib.hid (by rw [HQ.out.2.2]; exact HG.out.below (below_draws (Below.refl _ _) _))
          have HBL1 : Hid (BlkL wq BC [.slice (some ⟨b1, 0, none⟩) a.length c1, .slice (some ⟨b2, 0, none⟩) l.length c2, .slice (some ⟨b3, 0, none⟩) d.length c3, v, .int .i64 c, .float .f32 hub, .float .f32 tip]) := Lib.hid (by rw [HQ.out.2.2]; exact HBL.out.below (below_draws (Below.refl _ _) _))
          have HT1 : Hid (Turn wb wq (fun b => b = BC)) := Lib.hid (by rw [HQ.out.2.2]; exact HT.out.trans (Turn.of_below (below_draws (Below.refl _ _) _) _))
          clear HQ HG HBL HT
          have k3 := (HBL1.out.2 3 _ rfl).1
          have HGD : ∀ m, Hid (World.ownsRow (wq.drewN m) wb.heap.size 47 3 v k (xs.map (Value.float .f32))) := fun m => Lib.hid HG1.out
          go_wp2_with (first
            | (at_builtin; refine wpList_append_own _ rfl _ _ 28 rfl wb.heap.size 47 i0 (.agg #[.float .f32 0, .float .f32 0, .float .f32 0]) 3 12 Try.underlying28 hi hz0 hz1 hz2 rfl (by decide) _ _ _ rfl ((HGD _).out.alloc _) ⟨_, 0, none⟩ 1 1 [.float .f32 (fopV .add .f32 hub (fopV .mul .f32 (fopV .sub .f32 tip hub wq) q (wq.drewN (fopN .sub .f32 tip hub))) (wq.drewN (fopN .sub .f32 tip hub + fopN .mul .f32 (fopV .sub .f32 tip hub wq) q))), .float .f32 ch, .float .f32 tu] rfl rfl ?c1 ?c2 ?c3 ?c4 ?c5 ?_)
            | fail)
          case c1 =>
            intro j u hj
            match j, hj with
            | 0, hj => simp at hj; subst hj; exact ((blkL_at (World.drewN wq _) #[_, .float .f32 ch, .float .f32 tu] _ rfl).2 0 _ rfl).1
            | 1, hj => simp at hj; subst hj; exact ((blkL_at (World.drewN wq _) #[_, .float .f32 ch, .float .f32 tu] _ rfl).2 1 _ rfl).1
            | 2, hj => simp at hj; subst hj; exact ((blkL_at (World.drewN wq _) #[_, .float .f32 ch, .float .f32 tu] _ rfl).2 2 _ rfl).1
          case c2 => intro u hu; simp at hu; rcases hu with rfl | rfl | rfl <;> rfl
          case c3 => unfold maxLen; omega
          case c4 => omega
          case c5 => have := HT1.out.1; simp; omega
          · intro v' w2 hown' hgrow _
            obtain ⟨r, HR⟩ : ∃ r, Hid (r = fopV .add .f32 hub (fopV .mul .f32 (fopV .sub .f32 tip hub wq) q (wq.drewN (fopN .sub .f32 tip hub))) (wq.drewN (fopN .sub .f32 tip hub + fopN .mul .f32 (fopV .sub .f32 tip hub wq) q))) := ⟨_, rfl⟩
            rw [← HR.out] at hown' ⊢
            have HRR : Hid (canon .f32 r = canon .f32 (evR n hub tip k)) := Lib.hid (evR_spec HQC.out HR.out)
            have HF := HG1.out.form.2
            have hT2 := HT1.out.grownE _ hgrow HF
            have hne : some BC ≠ v.ownBlock := fun e => by have := HF BC e.symm; have := HLV.out; omega
            have hB2 := HBL1.out.grownE _ hgrow hne
            have hg2 : Gr3 w2 wb.heap.size v' (k + 1) (xs ++ [r, ch, tu]) := by unfold Gr3; simpa using hown'
            obtain ⟨⟨A', cp', rfl⟩, -⟩ := hg2.form
            have k3' := (hB2.2 3 _ rfl).1
            have f3' := (hB2.2 3 _ rfl).2
            have HM3 : Hid (Pre3 S' (xs ++ [r, ch, tu]) (k + 1)) := Lib.hid (HM.out.snoc (by rw [HRR.out, (HSE.out.2 k hlt).1]) (by rw [(HSE.out.2 k hlt).2.1]) (by rw [(HSE.out.2 k hlt).2.2]))
            have HG3 : Hid (Gr3 (w2.setCell ⟨BC, 3, none⟩ (.slice A' (k + 1) cp')) wb.heap.size (.slice A' (k + 1) cp') (k + 1) (xs ++ [r, ch, tu])) := Lib.hid (hg2.setE (by have := HLV.out; show BC < _; omega) _)
            have HB3 : Hid (BlkL (w2.setCell ⟨BC, 3, none⟩ (.slice A' (k + 1) cp')) BC [.slice (some ⟨b1, 0, none⟩) a.length c1, .slice (some ⟨b2, 0, none⟩) l.length c2, .slice (some ⟨b3, 0, none⟩) d.length c3, .slice A' (k + 1) cp', .int .i64 c, .float .f32 hub, .float .f32 tip]) := Lib.hid (hB2.set (i := 3) (by simp) _)
            have HT3 : Hid (Turn wb (w2.setCell ⟨BC, 3, none⟩ (.slice A' (k + 1) cp')) (fun b => b = BC)) := Lib.hid (hT2.trans (Turn.set _ ⟨BC, 3, none⟩ rfl _))
            clear hown' hgrow HF hT2 hne hB2 hg2 HG1 HBL1 HT1 HGD k3 HR HRR HQC
            go_wp2
            go_roundw
            case rel => exact ⟨k + 1, _, _, by omega, by go_num, HG3, HM3, HB3, HT3⟩
            case measure => simp [intOf]; omega
        · have hkk : k = n := by omega
          subst hkk
          obtain ⟨b4, c4, rfl, hlb, ho⟩ := rows_own HG.out (by omega)
          have e1 := HLV.out
          have HXC := Lib.hid (HM.out.cl HSE.out.1)
          have HX : Hid (validR a l d xs k c hub tip = validR a l d S' k c hub tip ∧ (validR a l d S' k c hub tip = true → xs = S' ∧ hub = hub ∧ tip = tip)) := Lib.hid (validR_CL HXC.out HM.out.1 rfl rfl)
          have LRR : Hid (BlkL wr (w.heap.size + 1) [.slice none 0 0, .slice none 0 0, .slice none 0 0, .slice none 0 0, .int .i64 0, .float .f32 0, .float .f32 0]) := Lib.hid (KR.out.turnS HT.out (by show ¬ w.heap.size + 1 = BC; omega))
          have P1 : Hid (Own wr b1 a) := Lib.hid (Q1.out.turn HT.out (by show ¬ b1 = BC; omega))
          have P2 : Hid (Own wr b2 l) := Lib.hid (Q2.out.turn HT.out (by show ¬ b2 = BC; omega))
          have P3 : Hid (Own wr b3 d) := Lib.hid (Q3.out.turn HT.out (by show ¬ b3 = BC; omega))
          have P4 : Hid (Own wr b4 xs) := Lib.hid ho
          have BR : Hid (Below w.heap.size w wr) := Lib.hid (HT.out.2.2.2 w BB.out (fun b hb => by have hb : b = BC := hb; omega))
          have HFW : Hid (FewR a l d xs k) := Lib.hid ⟨HM.out.1, by have := HSM.out; omega⟩
          have HLV2 : Hid (w.heap.size + 2 ≤ b1 ∧ b1 < b2 ∧ b2 < b3 ∧ b3 < b4) := Lib.hid (by omega)
          clear HLV
          have HLV := HLV2
          clear HLV2 e1 hlb ho KR KB Q1 Q2 Q3 BB HT HM HG HXC hlt hk
          obtain ⟨k0, k1, k2, k3, k4, k5, k6⟩ := HBL.out.sevenT
          have HRT : Hid (Rt wr (some ⟨b1, 0, none⟩) (some ⟨b2, 0, none⟩) (some ⟨b3, 0, none⟩) (some ⟨b4, 0, none⟩) a l d xs) := Lib.hid ⟨⟨P1.out.fl, P2.out.fl, P3.out.fl⟩, P4.out.fl⟩
          cases v : validR a l d xs k c hub tip
          · have HN : Hid (O = false) := Lib.hid (by rw [HO.out, ← HX.out.1, v])
            have HE := Lib.hid (s_l03Give_no (some ⟨b1, 0, none⟩) (some ⟨b2, 0, none⟩) (some ⟨b3, 0, none⟩) (some ⟨b4, 0, none⟩) c1 c2 c3 k c4 c hub tip a l d xs wr HRT.out HFW.out v)
            clear v
            go_wp2_with fail
            refine HE.out.mono ?_
            rintro e w6 ⟨rfl, b6⟩
            have B6 : Hid (Below w.heap.size w w6) := Lib.hid (below_of BR.out BR.out.size b6)
            have LR6 : Hid (BlkL w6 (w.heap.size + 1) [.slice none 0 0, .slice none 0 0, .slice none 0 0, .slice none 0 0, .int .i64 0, .float .f32 0, .float .f32 0]) := Lib.hid (LRR.out.below b6)
            have HT6 : Hid (OwnT w6 (w.heap.size + 2) (some ⟨b1, 0, none⟩) (some ⟨b2, 0, none⟩) (some ⟨b3, 0, none⟩) (some ⟨b4, 0, none⟩) b1 b2 b3 b4 a l d xs) := Lib.hid (by
              have := HLV.out
              exact ⟨⟨(P1.out.below b6).o (by omega), (P2.out.below b6).o (by omega), (P3.out.below b6).o (by omega), by omega, by omega, by omega⟩, (P4.out.below b6).o (by omega), by omega, by omega, by omega⟩)
            clear b6 k0 k1 k2 k3 k4 k5 k6
            have p0 := (LR6.out.2 0 _ rfl).1
            have q0 := (LR6.out.2 0 _ rfl).2
            have p1 := (LR6.out.2 1 _ rfl).1
            have q1 := (LR6.out.2 1 _ rfl).2
            have p2 := (LR6.out.2 2 _ rfl).1
            have q2 := (LR6.out.2 2 _ rfl).2
            have p3 := (LR6.out.2 3 _ rfl).1
            have q3 := (LR6.out.2 3 _ rfl).2
            have p4 := (LR6.out.2 4 _ rfl).1
            have q4 := (LR6.out.2 4 _ rfl).2
            have p5 := (LR6.out.2 5 _ rfl).1
            have q5 := (LR6.out.2 5 _ rfl).2
            have p6 := (LR6.out.2 6 _ rfl).1
            have q6 := (LR6.out.2 6 _ rfl).2
            go_wp2
            refine bodyPost_ret (v := .tuple #[.agg #[.slice none 0 0, .slice none 0 0, .slice none 0 0, .slice none 0 0, .int .i64 0, .float .f32 0, .float .f32 0], .bool false]) ?_ rfl ?_
            · simp [results, Try.results16, go_sem, p0, p1, p2, p3, p4, p5, p6]
            · rw [HN.out]
              exact ⟨none, none, none, none, 0, 0, 0, 0, 0, 1, 2, 3, rfl, OwnT.none _ _, (((((((B6.out).setCell (p := ⟨w.heap.size + 1, 0, none⟩) (by show w.heap.size ≤ w.heap.size + 1; omega) _).setCell (p := ⟨w.heap.size + 1, 1, none⟩) (by show w.heap.size ≤ w.heap.size + 1; omega) _).setCell (p := ⟨w.heap.size + 1, 2, none⟩) (by show w.heap.size ≤ w.heap.size + 1; omega) _).setCell (p := ⟨w.heap.size + 1, 3, none⟩) (by show w.heap.size ≤ w.heap.size + 1; omega) _).setCell (p := ⟨w.heap.size + 1, 4, none⟩) (by show w.heap.size ≤ w.heap.size + 1; omega) _).setCell (p := ⟨w.heap.size + 1, 5, none⟩) (by show w.heap.size ≤ w.heap.size + 1; omega) _).setCell (p := ⟨w.heap.size + 1, 6, none⟩) (by show w.heap.size ≤ w.heap.size + 1; omega) _⟩
          · have HN : Hid (O = true) := Lib.hid (by rw [HO.out, ← HX.out.1, v])
            obtain ⟨EQ, EQh, EQt⟩ := HX.out.2 (by rw [← HX.out.1, v])
            subst EQ
            have HE := Lib.hid (s_l03Give_yes (some ⟨b1, 0, none⟩) (some ⟨b2, 0, none⟩) (some ⟨b3, 0, none⟩) (some ⟨b4, 0, none⟩) c1 c2 c3 k c4 c hub tip a l d xs wr HRT.out HFW.out v)
            clear v
            go_wp2_with fail
            refine HE.out.mono ?_
            rintro e w6 ⟨rfl, b6⟩
            have B6 : Hid (Below w.heap.size w w6) := Lib.hid (below_of BR.out BR.out.size b6)
            have LR6 : Hid (BlkL w6 (w.heap.size + 1) [.slice none 0 0, .slice none 0 0, .slice none 0 0, .slice none 0 0, .int .i64 0, .float .f32 0, .float .f32 0]) := Lib.hid (LRR.out.below b6)
            have HT6 : Hid (OwnT w6 (w.heap.size + 2) (some ⟨b1, 0, none⟩) (some ⟨b2, 0, none⟩) (some ⟨b3, 0, none⟩) (some ⟨b4, 0, none⟩) b1 b2 b3 b4 a l d xs) := Lib.hid (by
              have := HLV.out
              exact ⟨⟨(P1.out.below b6).o (by omega), (P2.out.below b6).o (by omega), (P3.out.below b6).o (by omega), by omega, by omega, by omega⟩, (P4.out.below b6).o (by omega), by omega, by omega, by omega⟩)
            clear b6 k0 k1 k2 k3 k4 k5 k6
            have p0 := (LR6.out.2 0 _ rfl).1
            have q0 := (LR6.out.2 0 _ rfl).2
            have p1 := (LR6.out.2 1 _ rfl).1
            have q1 := (LR6.out.2 1 _ rfl).2
            have p2 := (LR6.out.2 2 _ rfl).1
            have q2 := (LR6.out.2 2 _ rfl).2
            have p3 := (LR6.out.2 3 _ rfl).1
            have q3 := (LR6.out.2 3 _ rfl).2
            have p4 := (LR6.out.2 4 _ rfl).1
            have q4 := (LR6.out.2 4 _ rfl).2
            have p5 := (LR6.out.2 5 _ rfl).1
            have q5 := (LR6.out.2 5 _ rfl).2
            have p6 := (LR6.out.2 6 _ rfl).1
            have q6 := (LR6.out.2 6 _ rfl).2
            go_wp2
            refine bodyPost_ret (v := .tuple #[.agg #[.slice (some ⟨b1, 0, none⟩) a.length c1, .slice (some ⟨b2, 0, none⟩) l.length c2, .slice (some ⟨b3, 0, none⟩) d.length c3, .slice (some ⟨b4, 0, none⟩) k c4, .int .i64 c, .float .f32 hub, .float .f32 tip], .bool true]) ?_ rfl ?_
            · simp [results, Try.results16, go_sem, p0, p1, p2, p3, p4, p5, p6]
            · rw [HN.out]
              exact ⟨_, _, _, _, c1, c2, c3, c4, b1, b2, b3, b4, rfl, ((((((((HT6.out).setT (p := ⟨w.heap.size + 1, 0, none⟩) (by show w.heap.size + 1 < _; omega) _).setT (p := ⟨w.heap.size + 1, 1, none⟩) (by show w.heap.size + 1 < _; omega) _).setT (p := ⟨w.heap.size + 1, 2, none⟩) (by show w.heap.size + 1 < _; omega) _).setT (p := ⟨w.heap.size + 1, 3, none⟩) (by show w.heap.size + 1 < _; omega) _).setT (p := ⟨w.heap.size + 1, 4, none⟩) (by show w.heap.size + 1 < _; omega) _).setT (p := ⟨w.heap.size + 1, 5, none⟩) (by show w.heap.size + 1 < _; omega) _).setT (p := ⟨w.heap.size + 1, 6, none⟩) (by show w.heap.size + 1 < _; omega) _).baseT (by omega), (((((((B6.out).setCell (p := ⟨w.heap.size + 1, 0, none⟩) (by show w.heap.size ≤ w.heap.size + 1; omega) _).setCell (p := ⟨w.heap.size + 1, 1, none⟩) (by show w.heap.size ≤ w.heap.size + 1; omega) _).setCell (p := ⟨w.heap.size + 1, 2, none⟩) (by show w.heap.size ≤ w.heap.size + 1; omega) _).setCell (p := ⟨w.heap.size + 1, 3, none⟩) (by show w.heap.size ≤ w.heap.size + 1; omega) _).setCell (p := ⟨w.heap.size + 1, 4, none⟩) (by show w.heap.size ≤ w.heap.size + 1; omega) _).setCell (p := ⟨w.heap.size + 1, 5, none⟩) (by show w.heap.size ≤ w.heap.size + 1; omega) _).setCell (p := ⟨w.heap.size + 1, 6, none⟩) (by show w.heap.size ≤ w.heap.size + 1; omega) _⟩
    · have HN := Lib.hid (HOZ.out hc)
      rw [show (decide ((2 : Int) ≤ i) && decide (i ≤ 12)) = false by simp; omega]
      clear hc
      have p0 := (LR.out.2 0 _ rfl).1
      have q0 := (LR.out.2 0 _ rfl).2
      have p1 := (LR.out.2 1 _ rfl).1
      have q1 := (LR.out.2 1 _ rfl).2
      have p2 := (LR.out.2 2 _ rfl).1
      have q2 := (LR.out.2 2 _ rfl).2
      have p3 := (LR.out.2 3 _ rfl).1
      have q3 := (LR.out.2 3 _ rfl).2
      have p4 := (LR.out.2 4 _ rfl).1
      have q4 := (LR.out.2 4 _ rfl).2
      have p5 := (LR.out.2 5 _ rfl).1
      have q5 := (LR.out.2 5 _ rfl).2
      have p6 := (LR.out.2 6 _ rfl).1
      have q6 := (LR.out.2 6 _ rfl).2
      go_wp2
      refine bodyPost_ret (v := .tuple #[.agg #[.slice none 0 0, .slice none 0 0, .slice none 0 0, .slice none 0 0, .int .i64 0, .float .f32 0, .float .f32 0], .bool false]) ?_ rfl ?_
      · simp [results, Try.results16, go_sem, p0, p1, p2, p3, p4, p5, p6]
      · rw [HN.out]
        exact ⟨none, none, none, none, 0, 0, 0, 0, 0, 1, 2, 3, rfl, OwnT.none _ _, (((((((B1.out).setCell (p := ⟨w.heap.size + 1, 0, none⟩) (by show w.heap.size ≤ w.heap.size + 1; omega) _).setCell (p := ⟨w.heap.size + 1, 1, none⟩) (by show w.heap.size ≤ w.heap.size + 1; omega) _).setCell (p := ⟨w.heap.size + 1, 2, none⟩) (by show w.heap.size ≤ w.heap.size + 1; omega) _).setCell (p := ⟨w.heap.size + 1, 3, none⟩) (by show w.heap.size ≤ w.heap.size + 1; omega) _).setCell (p := ⟨w.heap.size + 1, 4, none⟩) (by show w.heap.size ≤ w.heap.size + 1; omega) _).setCell (p := ⟨w.heap.size + 1, 5, none⟩) (by show w.heap.size ≤ w.heap.size + 1; omega) _).setCell (p := ⟨w.heap.size + 1, 6, none⟩) (by show w.heap.size ≤ w.heap.size + 1; omega) _⟩
def sel (b : Bool) (x : Nat) : Nat := bif b then x else 0
def selI (b : Bool) (x : Int) : Int := bif b then x else 0
theorem below_of_drewN {w w' : World} {n : Nat} (h : w' = w.drewN n) : Below w.heap.size w w' := by rw [h]; exact below_draws (Below.refl _ _) n
/-- the state that ReleaseDrive leaves -/
def relS (st : Int) (sp : Nat) : Int := bif decide (st = 4) then (bif (FloatKind.f32.format.order sp 0 == some .eq) then 0 else 3) else st
set_option maxHeartbeats 8000000 in
theorem i_onlyValidDrive (p0 p1 p2 p3 p4 p5 p6 p7 : Nat) (st : Int) (sp pi en : Nat) (w : World) :
    Calls Try.prog 199 #[.agg #[.float .f32 p0, .float .f32 p1, .float .f32 p2, .float .f32 p3, .float .f32 p4, .float .f32 p5, .float .f32 p6, .float .f32 p7, .int .i64 st, .float .f32 sp, .float .f32 pi, .float .f32 en]] w fun e w' => e = .returned (.tuple #[.agg #[.float .f32 (sel (driveV p0 p1 p2 p3 p4 p5 p6 p7 st sp pi en) p0), .float .f32 (sel (driveV p0 p1 p2 p3 p4 p5 p6 p7 st sp pi en) p1), .float .f32 (sel (driveV p0 p1 p2 p3 p4 p5 p6 p7 st sp pi en) p2), .float .f32 (sel (driveV p0 p1 p2 p3 p4 p5 p6 p7 st sp pi en) p3), .float .f32 (sel (driveV p0 p1 p2 p3 p4 p5 p6 p7 st sp pi en) p4), .float .f32 (sel (driveV p0 p1 p2 p3 p4 p5 p6 p7 st sp pi en) p5), .float .f32 (sel (driveV p0 p1 p2 p3 p4 p5 p6 p7 st sp pi en) p6), .float .f32 (sel (driveV p0 p1 p2 p3 p4 p5 p6 p7 st sp pi en) p7), .int .i64 (selI (driveV p0 p1 p2 p3 p4 p5 p6 p7 st sp pi en) st), .float .f32 (sel (driveV p0 p1 p2 p3 p4 p5 p6 p7 st sp pi en) sp), .float .f32 (sel (driveV p0 p1 p2 p3 p4 p5 p6 p7 st sp pi en) pi), .float .f32 (sel (driveV p0 p1 p2 p3 p4 p5 p6 p7 st sp pi en) en)], .bool (driveV p0 p1 p2 p3 p4 p5 p6 p7 st sp pi en)]) ∧ Below w.heap.size w w' := by
  have HB : ∀ o1 o2, Hid (Below w.heap.size w ((w.alloc o1).alloc o2)) := fun _ _ => Lib.hid (((Below.refl _ _).alloc (Nat.le_refl _) _).alloc (by simp) _)
  have K1 : ∀ o t, Hid (BlkL ((w.alloc (.cells #[.float .f32 p0, .float .f32 p1, .float .f32 p2, .float .f32 p3, .float .f32 p4, .float .f32 p5, .float .f32 p6, .float .f32 p7, .int .i64 st, .float .f32 sp, .float .f32 pi, .float .f32 en] t)).alloc o) w.heap.size [.float .f32 p0, .float .f32 p1, .float .f32 p2, .float .f32 p3, .float .f32 p4, .float .f32 p5, .float .f32 p6, .float .f32 p7, .int .i64 st, .float .f32 sp, .float .f32 pi, .float .f32 en]) := fun _ _ => Lib.hid ((blkL_at w #[.float .f32 p0, .float .f32 p1, .float .f32 p2, .float .f32 p3, .float .f32 p4, .float .f32 p5, .float .f32 p6, .float .f32 p7, .int .i64 st, .float .f32 sp, .float .f32 pi, .float .f32 en] _ rfl).alloc _)
  have K2 : ∀ o t, Hid (BlkL ((w.alloc o).alloc (.cells #[.float .f32 0, .float .f32 0, .float .f32 0, .float .f32 0, .float .f32 0, .float .f32 0, .float .f32 0, .float .f32 0, .int .i64 0, .float .f32 0, .float .f32 0, .float .f32 0] t)) (w.heap.size + 1) [.float .f32 0, .float .f32 0, .float .f32 0, .float .f32 0, .float .f32 0, .float .f32 0, .float .f32 0, .float .f32 0, .int .i64 0, .float .f32 0, .float .f32 0, .float .f32 0]) := fun _ _ => Lib.hid (blkL_at (w.alloc _) #[.float .f32 0, .float .f32 0, .float .f32 0, .float .f32 0, .float .f32 0, .float .f32 0, .float .f32 0, .float .f32 0, .int .i64 0, .float .f32 0, .float .f32 0, .float .f32 0] _ (by simp))
  have hb0 : w.heap.size ≤ w.heap.size := Nat.le_refl _
  have hb1 : w.heap.size ≤ w.heap.size + 1 := by omega
  go_enter Try.func199, Try.ntmps199
  go_wp2_with fail
  refine (i_ValidDrive p0 p1 p2 p3 p4 p5 p6 p7 st sp pi en _).mono ?_
  rintro e w1 ⟨rfl, b1⟩
  have L1 : Hid (BlkL w1 w.heap.size [.float .f32 p0, .float .f32 p1, .float .f32 p2, .float .f32 p3, .float .f32 p4, .float .f32 p5, .float .f32 p6, .float .f32 p7, .int .i64 st, .float .f32 sp, .float .f32 pi, .float .f32 en]) := Lib.hid ((K1 _ _).out.below b1)
  have L2 : Hid (BlkL w1 (w.heap.size + 1) [.float .f32 0, .float .f32 0, .float .f32 0, .float .f32 0, .float .f32 0, .float .f32 0, .float .f32 0, .float .f32 0, .int .i64 0, .float .f32 0, .float .f32 0, .float .f32 0]) := Lib.hid ((K2 _ _).out.below b1)
  have B1 : Hid (Below w.heap.size w w1) := Lib.hid (below_of (HB _ _).out (HB _ _).out.size b1)
  clear b1 K1 K2 HB
  obtain ⟨⟨k0, k1, k2, k3, k4, k5, k6, k7⟩, k8, k9, k10, k11⟩ := L1.out.c12
  obtain ⟨c0, f0⟩ := L2.out.2 0 _ rfl
  obtain ⟨c1, f1⟩ := L2.out.2 1 _ rfl
  obtain ⟨c2, f2⟩ := L2.out.2 2 _ rfl
  obtain ⟨c3, f3⟩ := L2.out.2 3 _ rfl
  obtain ⟨c4, f4⟩ := L2.out.2 4 _ rfl
  obtain ⟨c5, f5⟩ := L2.out.2 5 _ rfl
  obtain ⟨c6, f6⟩ := L2.out.2 6 _ rfl
  obtain ⟨c7, f7⟩ := L2.out.2 7 _ rfl
  obtain ⟨c8, f8⟩ := L2.out.2 8 _ rfl
  obtain ⟨c9, f9⟩ := L2.out.2 9 _ rfl
  obtain ⟨c10, f10⟩ := L2.out.2 10 _ rfl
  obtain ⟨c11, f11⟩ := L2.out.2 11 _ rfl
  cases va : driveV p0 p1 p2 p3 p4 p5 p6 p7 st sp pi en
  · go_wp2
    refine bodyPost_ret (v := .tuple #[.agg #[.float .f32 0, .float .f32 0, .float .f32 0, .float .f32 0, .float .f32 0, .float .f32 0, .float .f32 0, .float .f32 0, .int .i64 0, .float .f32 0, .float .f32 0, .float .f32 0], .bool false]) ?_ rfl ⟨?_, ?_⟩
    · simp [results, Try.results199, go_sem, c0, c1, c2, c3, c4, c5, c6, c7, c8, c9, c10, c11]
    · rw [va]; rfl
    · exact ((((((((((((B1.out).setCell (p := ⟨w.heap.size + 1, 0, none⟩) hb1 _).setCell (p := ⟨w.heap.size + 1, 1, none⟩) hb1 _).setCell (p := ⟨w.heap.size + 1, 2, none⟩) hb1 _).setCell (p := ⟨w.heap.size + 1, 3, none⟩) hb1 _).setCell (p := ⟨w.heap.size + 1, 4, none⟩) hb1 _).setCell (p := ⟨w.heap.size + 1, 5, none⟩) hb1 _).setCell (p := ⟨w.heap.size + 1, 6, none⟩) hb1 _).setCell (p := ⟨w.heap.size + 1, 7, none⟩) hb1 _).setCell (p := ⟨w.heap.size + 1, 8, none⟩) hb1 _).setCell (p := ⟨w.heap.size + 1, 9, none⟩) hb1 _).setCell (p := ⟨w.heap.size + 1, 10, none⟩) hb1 _).setCell (p := ⟨w.heap.size + 1, 11, none⟩) hb1 _
  · go_wp2
    refine bodyPost_ret (v := .tuple #[.agg #[.float .f32 p0, .float .f32 p1, .float .f32 p2, .float .f32 p3, .float .f32 p4, .float .f32 p5, .float .f32 p6, .float .f32 p7, .int .i64 st, .float .f32 sp, .float .f32 pi, .float .f32 en], .bool true]) ?_ rfl ⟨?_, ?_⟩
    · simp [results, Try.results199, go_sem, c0, c1, c2, c3, c4, c5, c6, c7, c8, c9, c10, c11]
    · rw [va]; rfl
    · exact ((((((((((((B1.out).setCell (p := ⟨w.heap.size + 1, 0, none⟩) hb1 _).setCell (p := ⟨w.heap.size + 1, 1, none⟩) hb1 _).setCell (p := ⟨w.heap.size + 1, 2, none⟩) hb1 _).setCell (p := ⟨w.heap.size + 1, 3, none⟩) hb1 _).setCell (p := ⟨w.heap.size + 1, 4, none⟩) hb1 _).setCell (p := ⟨w.heap.size + 1, 5, none⟩) hb1 _).setCell (p := ⟨w.heap.size + 1, 6, none⟩) hb1 _).setCell (p := ⟨w.heap.size + 1, 7, none⟩) hb1 _).setCell (p := ⟨w.heap.size + 1, 8, none⟩) hb1 _).setCell (p := ⟨w.heap.size + 1, 9, none⟩) hb1 _).setCell (p := ⟨w.heap.size + 1, 10, none⟩) hb1 _).setCell (p := ⟨w.heap.size + 1, 11, none⟩) hb1 _
theorem driveV_new (p0 p1 p2 p3 p4 p5 p6 p7 : Nat) : driveV p0 p1 p2 p3 p4 p5 p6 p7 0 0 1065353216 0 = plantV p0 p1 p2 p3 p4 p5 p6 p7 := by
  unfold driveV
  rw [show stateV 0 = true by decide, show amount 0 = true by decide +kernel, show within 1065353216 0 1065353216 = true by decide +kernel, show fin .f32 0 = true by decide +kernel]
  simp
set_option maxHeartbeats 8000000 in
theorem i_NewDrive (p0 p1 p2 p3 p4 p5 p6 p7 : Nat) (w : World) :
    Calls Try.prog 151 #[.agg #[.float .f32 p0, .float .f32 p1, .float .f32 p2, .float .f32 p3, .float .f32 p4, .float .f32 p5, .float .f32 p6, .float .f32 p7]] w fun e w' => e = .returned (.tuple #[.agg #[.float .f32 (sel (plantV p0 p1 p2 p3 p4 p5 p6 p7) p0), .float .f32 (sel (plantV p0 p1 p2 p3 p4 p5 p6 p7) p1), .float .f32 (sel (plantV p0 p1 p2 p3 p4 p5 p6 p7) p2), .float .f32 (sel (plantV p0 p1 p2 p3 p4 p5 p6 p7) p3), .float .f32 (sel (plantV p0 p1 p2 p3 p4 p5 p6 p7) p4), .float .f32 (sel (plantV p0 p1 p2 p3 p4 p5 p6 p7) p5), .float .f32 (sel (plantV p0 p1 p2 p3 p4 p5 p6 p7) p6), .float .f32 (sel (plantV p0 p1 p2 p3 p4 p5 p6 p7) p7), .int .i64 (selI (plantV p0 p1 p2 p3 p4 p5 p6 p7) 0), .float .f32 (sel (plantV p0 p1 p2 p3 p4 p5 p6 p7) 0), .float .f32 (sel (plantV p0 p1 p2 p3 p4 p5 p6 p7) 1065353216), .float .f32 (sel (plantV p0 p1 p2 p3 p4 p5 p6 p7) 0)], .bool (plantV p0 p1 p2 p3 p4 p5 p6 p7)]) ∧ Below w.heap.size w w' := by
  have HB : ∀ o1 o2, Hid (Below w.heap.size w ((w.alloc o1).alloc o2)) := fun _ _ => Lib.hid (((Below.refl _ _).alloc (Nat.le_refl _) _).alloc (by simp) _)
  have K1 : ∀ o t, Hid (BlkL ((w.alloc (.cells #[.float .f32 p0, .float .f32 p1, .float .f32 p2, .float .f32 p3, .float .f32 p4, .float .f32 p5, .float .f32 p6, .float .f32 p7] t)).alloc o) w.heap.size [.float .f32 p0, .float .f32 p1, .float .f32 p2, .float .f32 p3, .float .f32 p4, .float .f32 p5, .float .f32 p6, .float .f32 p7]) := fun _ _ => Lib.hid ((blkL_at w #[.float .f32 p0, .float .f32 p1, .float .f32 p2, .float .f32 p3, .float .f32 p4, .float .f32 p5, .float .f32 p6, .float .f32 p7] _ rfl).alloc _)
  have K2 : ∀ o t, Hid (BlkL ((w.alloc o).alloc (.cells #[.float .f32 0, .float .f32 0, .float .f32 0, .float .f32 0, .float .f32 0, .float .f32 0, .float .f32 0, .float .f32 0, .int .i64 0, .float .f32 0, .float .f32 0, .float .f32 0] t)) (w.heap.size + 1) [.float .f32 0, .float .f32 0, .float .f32 0, .float .f32 0, .float .f32 0, .float .f32 0, .float .f32 0, .float .f32 0, .int .i64 0, .float .f32 0, .float .f32 0, .float .f32 0]) := fun _ _ => Lib.hid (blkL_at (w.alloc _) #[.float .f32 0, .float .f32 0, .float .f32 0, .float .f32 0, .float .f32 0, .float .f32 0, .float .f32 0, .float .f32 0, .int .i64 0, .float .f32 0, .float .f32 0, .float .f32 0] _ (by simp))
  have hb0 : w.heap.size ≤ w.heap.size := Nat.le_refl _
  have hb1 : w.heap.size ≤ w.heap.size + 1 := by omega
  go_enter Try.func151, Try.ntmps151
  go_wp2_with fail
  refine (i_onlyValidDrive p0 p1 p2 p3 p4 p5 p6 p7 0 0 1065353216 0 _).mono ?_
  rw [driveV_new]
  rintro e w1 ⟨rfl, b1⟩
  have L1 : Hid (BlkL w1 w.heap.size [.float .f32 p0, .float .f32 p1, .float .f32 p2, .float .f32 p3, .float .f32 p4, .float .f32 p5, .float .f32 p6, .float .f32 p7]) := Lib.hid ((K1 _ _).out.below b1)
  have L2 : Hid (BlkL w1 (w.heap.size + 1) [.float .f32 0, .float .f32 0, .float .f32 0, .float .f32 0, .float .f32 0, .float .f32 0, .float .f32 0, .float .f32 0, .int .i64 0, .float .f32 0, .float .f32 0, .float .f32 0]) := Lib.hid ((K2 _ _).out.below b1)
  have B1 : Hid (Below w.heap.size w w1) := Lib.hid (below_of (HB _ _).out (HB _ _).out.size b1)
  clear b1 K1 K2 HB
  obtain ⟨k0, k1, k2, k3, k4, k5, k6, k7⟩ := L1.out.c8
  obtain ⟨c0, f0⟩ := L2.out.2 0 _ rfl
  obtain ⟨c1, f1⟩ := L2.out.2 1 _ rfl
  obtain ⟨c2, f2⟩ := L2.out.2 2 _ rfl
  obtain ⟨c3, f3⟩ := L2.out.2 3 _ rfl
  obtain ⟨c4, f4⟩ := L2.out.2 4 _ rfl
  obtain ⟨c5, f5⟩ := L2.out.2 5 _ rfl
  obtain ⟨c6, f6⟩ := L2.out.2 6 _ rfl
  obtain ⟨c7, f7⟩ := L2.out.2 7 _ rfl
  obtain ⟨c8, f8⟩ := L2.out.2 8 _ rfl
  obtain ⟨c9, f9⟩ := L2.out.2 9 _ rfl
  obtain ⟨c10, f10⟩ := L2.out.2 10 _ rfl
  obtain ⟨c11, f11⟩ := L2.out.2 11 _ rfl
  go_wp2
  refine bodyPost_ret (v := .tuple #[.agg #[.float .f32 (sel (plantV p0 p1 p2 p3 p4 p5 p6 p7) p0), .float .f32 (sel (plantV p0 p1 p2 p3 p4 p5 p6 p7) p1), .float .f32 (sel (plantV p0 p1 p2 p3 p4 p5 p6 p7) p2), .float .f32 (sel (plantV p0 p1 p2 p3 p4 p5 p6 p7) p3), .float .f32 (sel (plantV p0 p1 p2 p3 p4 p5 p6 p7) p4), .float .f32 (sel (plantV p0 p1 p2 p3 p4 p5 p6 p7) p5), .float .f32 (sel (plantV p0 p1 p2 p3 p4 p5 p6 p7) p6), .float .f32 (sel (plantV p0 p1 p2 p3 p4 p5 p6 p7) p7), .int .i64 (selI (plantV p0 p1 p2 p3 p4 p5 p6 p7) 0), .float .f32 (sel (plantV p0 p1 p2 p3 p4 p5 p6 p7) 0), .float .f32 (sel (plantV p0 p1 p2 p3 p4 p5 p6 p7) 1065353216), .float .f32 (sel (plantV p0 p1 p2 p3 p4 p5 p6 p7) 0)], .bool (plantV p0 p1 p2 p3 p4 p5 p6 p7)]) ?_ rfl ⟨?_, ?_⟩
  · simp [results, Try.results151, go_sem, c0, c1, c2, c3, c4, c5, c6, c7, c8, c9, c10, c11]
  · rfl
  · exact ((((((((((((B1.out).setCell (p := ⟨w.heap.size + 1, 0, none⟩) hb1 _).setCell (p := ⟨w.heap.size + 1, 1, none⟩) hb1 _).setCell (p := ⟨w.heap.size + 1, 2, none⟩) hb1 _).setCell (p := ⟨w.heap.size + 1, 3, none⟩) hb1 _).setCell (p := ⟨w.heap.size + 1, 4, none⟩) hb1 _).setCell (p := ⟨w.heap.size + 1, 5, none⟩) hb1 _).setCell (p := ⟨w.heap.size + 1, 6, none⟩) hb1 _).setCell (p := ⟨w.heap.size + 1, 7, none⟩) hb1 _).setCell (p := ⟨w.heap.size + 1, 8, none⟩) hb1 _).setCell (p := ⟨w.heap.size + 1, 9, none⟩) hb1 _).setCell (p := ⟨w.heap.size + 1, 10, none⟩) hb1 _).setCell (p := ⟨w.heap.size + 1, 11, none⟩) hb1 _
set_option maxHeartbeats 8000000 in
theorem s_NewDrive (p0 p1 p2 p3 p4 p5 p6 p7 : Nat) (w : World) :
    Calls Try.prog 148 #[.agg #[.float .f32 p0, .float .f32 p1, .float .f32 p2, .float .f32 p3, .float .f32 p4, .float .f32 p5, .float .f32 p6, .float .f32 p7]] w fun e w' => e = .returned (.tuple #[.agg #[.float .f32 (sel (plantV p0 p1 p2 p3 p4 p5 p6 p7) p0), .float .f32 (sel (plantV p0 p1 p2 p3 p4 p5 p6 p7) p1), .float .f32 (sel (plantV p0 p1 p2 p3 p4 p5 p6 p7) p2), .float .f32 (sel (plantV p0 p1 p2 p3 p4 p5 p6 p7) p3), .float .f32 (sel (plantV p0 p1 p2 p3 p4 p5 p6 p7) p4), .float .f32 (sel (plantV p0 p1 p2 p3 p4 p5 p6 p7) p5), .float .f32 (sel (plantV p0 p1 p2 p3 p4 p5 p6 p7) p6), .float .f32 (sel (plantV p0 p1 p2 p3 p4 p5 p6 p7) p7), .int .i64 (selI (plantV p0 p1 p2 p3 p4 p5 p6 p7) 0), .float .f32 (sel (plantV p0 p1 p2 p3 p4 p5 p6 p7) 0), .float .f32 (sel (plantV p0 p1 p2 p3 p4 p5 p6 p7) 1065353216), .float .f32 (sel (plantV p0 p1 p2 p3 p4 p5 p6 p7) 0)], .bool (plantV p0 p1 p2 p3 p4 p5 p6 p7)]) ∧ Below w.heap.size w w' := by
  have HB : ∀ o1 o2, Hid (Below w.heap.size w ((w.alloc o1).alloc o2)) := fun _ _ => Lib.hid (((Below.refl _ _).alloc (Nat.le_refl _) _).alloc (by simp) _)
  have K1 : ∀ o t, Hid (BlkL ((w.alloc (.cells #[.float .f32 p0, .float .f32 p1, .float .f32 p2, .float .f32 p3, .float .f32 p4, .float .f32 p5, .float .f32 p6, .float .f32 p7] t)).alloc o) w.heap.size [.float .f32 p0, .float .f32 p1, .float .f32 p2, .float .f32 p3, .float .f32 p4, .float .f32 p5, .float .f32 p6, .float .f32 p7]) := fun _ _ => Lib.hid ((blkL_at w #[.float .f32 p0, .float .f32 p1, .float .f32 p2, .float .f32 p3, .float .f32 p4, .float .f32 p5, .float .f32 p6, .float .f32 p7] _ rfl).alloc _)
  have K2 : ∀ o t, Hid (BlkL ((w.alloc o).alloc (.cells #[.float .f32 0, .float .f32 0, .float .f32 0, .float .f32 0, .float .f32 0, .float .f32 0, .float .f32 0, .float .f32 0, .int .i64 0, .float .f32 0, .float .f32 0, .float .f32 0] t)) (w.heap.size + 1) [.float .f32 0, .float .f32 0, .float .f32 0, .float .f32 0, .float .f32 0, .float .f32 0, .float .f32 0, .float .f32 0, .int .i64 0, .float .f32 0, .float .f32 0, .float .f32 0]) := fun _ _ => Lib.hid (blkL_at (w.alloc _) #[.float .f32 0, .float .f32 0, .float .f32 0, .float .f32 0, .float .f32 0, .float .f32 0, .float .f32 0, .float .f32 0, .int .i64 0, .float .f32 0, .float .f32 0, .float .f32 0] _ (by simp))
  have hb0 : w.heap.size ≤ w.heap.size := Nat.le_refl _
  have hb1 : w.heap.size ≤ w.heap.size + 1 := by omega
  go_enter Try.func148, Try.ntmps148
  go_wp2_with fail
  refine (s_l05Plant p0 p1 p2 p3 p4 p5 p6 p7 _ _ (K1 _ _).out.c8).mono ?_
  rintro e w1 ⟨n, rfl, hw⟩
  have b1 := below_of_drewN hw
  clear hw
  have L1 : Hid (BlkL w1 w.heap.size [.float .f32 p0, .float .f32 p1, .float .f32 p2, .float .f32 p3, .float .f32 p4, .float .f32 p5, .float .f32 p6, .float .f32 p7]) := Lib.hid ((K1 _ _).out.below b1)
  have L2 : Hid (BlkL w1 (w.heap.size + 1) [.float .f32 0, .float .f32 0, .float .f32 0, .float .f32 0, .float .f32 0, .float .f32 0, .float .f32 0, .float .f32 0, .int .i64 0, .float .f32 0, .float .f32 0, .float .f32 0]) := Lib.hid ((K2 _ _).out.below b1)
  have B1 : Hid (Below w.heap.size w w1) := Lib.hid (below_of (HB _ _).out (HB _ _).out.size b1)
  clear b1 K1 K2 HB
  obtain ⟨k0, k1, k2, k3, k4, k5, k6, k7⟩ := L1.out.c8
  obtain ⟨c0, f0⟩ := L2.out.2 0 _ rfl
  obtain ⟨c1, f1⟩ := L2.out.2 1 _ rfl
  obtain ⟨c2, f2⟩ := L2.out.2 2 _ rfl
  obtain ⟨c3, f3⟩ := L2.out.2 3 _ rfl
  obtain ⟨c4, f4⟩ := L2.out.2 4 _ rfl
  obtain ⟨c5, f5⟩ := L2.out.2 5 _ rfl
  obtain ⟨c6, f6⟩ := L2.out.2 6 _ rfl
  obtain ⟨c7, f7⟩ := L2.out.2 7 _ rfl
  obtain ⟨c8, f8⟩ := L2.out.2 8 _ rfl
  obtain ⟨c9, f9⟩ := L2.out.2 9 _ rfl
  obtain ⟨c10, f10⟩ := L2.out.2 10 _ rfl
  obtain ⟨c11, f11⟩ := L2.out.2 11 _ rfl
  cases va : plantV p0 p1 p2 p3 p4 p5 p6 p7
  · go_wp2
    refine bodyPost_ret (v := .tuple #[.agg #[.float .f32 0, .float .f32 0, .float .f32 0, .float .f32 0, .float .f32 0, .float .f32 0, .float .f32 0, .float .f32 0, .int .i64 0, .float .f32 0, .float .f32 0, .float .f32 0], .bool false]) ?_ rfl ⟨?_, ?_⟩
    · simp [results, Try.results148, go_sem, c0, c1, c2, c3, c4, c5, c6, c7, c8, c9, c10, c11]
    · rw [va]; rfl
    · exact ((((((((((((B1.out).setCell (p := ⟨w.heap.size + 1, 0, none⟩) hb1 _).setCell (p := ⟨w.heap.size + 1, 1, none⟩) hb1 _).setCell (p := ⟨w.heap.size + 1, 2, none⟩) hb1 _).setCell (p := ⟨w.heap.size + 1, 3, none⟩) hb1 _).setCell (p := ⟨w.heap.size + 1, 4, none⟩) hb1 _).setCell (p := ⟨w.heap.size + 1, 5, none⟩) hb1 _).setCell (p := ⟨w.heap.size + 1, 6, none⟩) hb1 _).setCell (p := ⟨w.heap.size + 1, 7, none⟩) hb1 _).setCell (p := ⟨w.heap.size + 1, 8, none⟩) hb1 _).setCell (p := ⟨w.heap.size + 1, 9, none⟩) hb1 _).setCell (p := ⟨w.heap.size + 1, 10, none⟩) hb1 _).setCell (p := ⟨w.heap.size + 1, 11, none⟩) hb1 _
  · go_wp2
    refine bodyPost_ret (v := .tuple #[.agg #[.float .f32 p0, .float .f32 p1, .float .f32 p2, .float .f32 p3, .float .f32 p4, .float .f32 p5, .float .f32 p6, .float .f32 p7, .int .i64 0, .float .f32 0, .float .f32 1065353216, .float .f32 0], .bool true]) ?_ rfl ⟨?_, ?_⟩
    · simp [results, Try.results148, go_sem, c0, c1, c2, c3, c4, c5, c6, c7, c8, c9, c10, c11]
    · rw [va]; rfl
    · exact ((((((((((((B1.out).setCell (p := ⟨w.heap.size + 1, 0, none⟩) hb1 _).setCell (p := ⟨w.heap.size + 1, 1, none⟩) hb1 _).setCell (p := ⟨w.heap.size + 1, 2, none⟩) hb1 _).setCell (p := ⟨w.heap.size + 1, 3, none⟩) hb1 _).setCell (p := ⟨w.heap.size + 1, 4, none⟩) hb1 _).setCell (p := ⟨w.heap.size + 1, 5, none⟩) hb1 _).setCell (p := ⟨w.heap.size + 1, 6, none⟩) hb1 _).setCell (p := ⟨w.heap.size + 1, 7, none⟩) hb1 _).setCell (p := ⟨w.heap.size + 1, 8, none⟩) hb1 _).setCell (p := ⟨w.heap.size + 1, 9, none⟩) hb1 _).setCell (p := ⟨w.heap.size + 1, 10, none⟩) hb1 _).setCell (p := ⟨w.heap.size + 1, 11, none⟩) hb1 _
end Go.Proofs.Ytiiiigldpbomkaa
