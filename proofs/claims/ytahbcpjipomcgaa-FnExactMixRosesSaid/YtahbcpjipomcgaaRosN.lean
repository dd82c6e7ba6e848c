/- NormRose: both sides. No statement is proved here. -/
import Derived.Test.YtahbcpjipomcgaaRosM
import Derived.Test.YtahbcpjipomcgaaBinM
import Derived.Test.YtahbcpjipomcgaaMarkR
import Derived.Test.YtahbcpjipomcgaaApp
import Derived.Lib.SliceRun
import Derived.Lib.AppendZeros
import Derived.Maps.AppendAt
import Derived.RegionTactic
import Derived.BigRegion
namespace Go.Proofs.Ytahbcpjipomcgaa
open Go Go.RowKit
def nrmQ (a : List Nat) (k : Nat) : Nat := fop .quo .f32 (a.getD k 0) (sumK a a.length)
def nrmA (a : List Nat) : List Nat := (List.range a.length).map (nrmQ a)
theorem nrmA_length (a : List Nat) : (nrmA a).length = a.length := by simp [nrmA]
theorem nrmA_at {a : List Nat} {k : Nat} (h : k < a.length) : (nrmA a).getD k 0 = nrmQ a k := by simp [nrmA, List.getD, h]
def nrmO (a l : List Nat) : Bool := rosV a l && (gtr32 (sumK a a.length) 0 && rosV (nrmA a) l)
def gLn (o : Bool) (xs : List Nat) : List Nat := if o then xs else []
theorem nrm_few (a l : List Nat) : FewS (gLn (nrmO a l) (nrmA a)) (gLn (nrmO a l) l) := by
  unfold gLn
  cases h : nrmO a l
  · simp [FewS]
  · unfold nrmO at h
    simp only [Bool.and_eq_true] at h
    obtain ⟨s1, s2, s3⟩ := rosV_sized h.1
    simp only [if_true, FewS, nrmA_length]
    omega
theorem upD_add {x y : Nat} (hx : upD (FloatKind.f32.decode x)) (hy : amount y = true) : upD (FloatKind.f32.decode (fop .add .f32 x y)) := by
  obtain ⟨t, n, j, dy, ht⟩ := amount_up hy
  cases hd : FloatKind.f32.decode x with
  | nan s f => rw [hd] at hx; exact hx.elim
  | infinity s =>
    rw [hd] at hx
    cases (show s = false from hx)
    have hd' : FloatKind.f32.format.read x = .infinity false := hd
    have hb : floatBits .add .f32 x y = some (FloatKind.f32.format.write (.infinity false)) := by
      unfold floatBits Ieee.Format.add
      simp only []
      rw [hd', dy]
      rfl
    unfold fop
    rw [hb]
    simp only [Option.getD_some]
    rw [canon_of_not (write_not_nan FloatKind.f32.format rfl)]
    exact up_inf FloatKind.f32.format
  | number s m i =>
    have hs : s = false ∨ m = 0 := by rw [hd] at hx; exact hx
    have hd' : FloatKind.f32.format.read x = .number s m i := hd
    have h1 : 0 ≤ Ieee.signed s m (i - min i j).toNat := by
      rcases hs with rfl | rfl
      · exact Int.natCast_nonneg (m <<< (i - min i j).toNat)
      · unfold Ieee.signed; simp
    have h2 : 0 ≤ Ieee.signed t n (j - min i j).toNat := by
      rcases ht with rfl | rfl
      · exact Int.natCast_nonneg (n <<< (j - min i j).toNat)
      · unfold Ieee.signed; simp
    have hb : floatBits .add .f32 x y = some (FloatKind.f32.format.write (.number (if Ieee.signed s m (i - min i j).toNat + Ieee.signed t n (j - min i j).toNat = 0 then s && t else decide (Ieee.signed s m (i - min i j).toNat + Ieee.signed t n (j - min i j).toNat < 0)) (Ieee.signed s m (i - min i j).toNat + Ieee.signed t n (j - min i j).toNat).natAbs (min i j))) := by
      unfold floatBits Ieee.Format.add
      simp only []
      rw [hd', dy]
      rfl
    unfold fop
    rw [hb]
    simp only [Option.getD_some]
    rw [canon_of_not (write_not_nan FloatKind.f32.format rfl)]
    refine upD_write _ ?_ up32
    generalize Ieee.signed s m (i - min i j).toNat = p at *
    generalize Ieee.signed t n (j - min i j).toNat = q at *
    by_cases h0 : p + q = 0
    · right; rw [h0]; rfl
    · left; rw [if_neg h0]; exact decide_eq_false (by omega)
theorem amount_canonN {x : Nat} (h : amount x = true) : canon .f32 x = x := by
  unfold amount at h; rw [Bool.and_eq_true] at h; exact canon_of_not (isn_of_fin h.1)
theorem sumK_up {a : List Nat} {n : Nat} (h : amts a n = true) : ∀ k, k ≤ n → upD (FloatKind.f32.decode (sumK a k)) := by
  intro k
  induction k with
  | zero => intro _; show upD (FloatKind.f32.decode 0); rw [show FloatKind.f32.decode 0 = .number false 0 (-149) by decide +kernel]; exact .inl rfl
  | succ k ih =>
    intro hk
    have ha := amts_at h k (by omega)
    simp only [sumK]
    rw [amount_canonN ha]
    exact upD_add (ih (by omega)) ha
/-- the quotient of an amount and what is above 0 -/
theorem quo_up2 {x d : Nat} (hx : amount x = true) (hu : upD (FloatKind.f32.decode d)) (hd : gtr32 d 0 = true) : upD (FloatKind.f32.decode (fop .quo .f32 x d)) := by
  cases hk : FloatKind.f32.decode d with
  | nan s f => rw [hk] at hu; exact hu.elim
  | number s m e => exact quo_up hx (by unfold posi; rw [hd]; unfold fin; rw [hk]; rfl)
  | infinity s =>
    obtain ⟨t, n, j, dx, ht⟩ := amount_up hx
    rw [hk] at hu
    cases (show s = false from hu)
    have hk' : FloatKind.f32.format.read d = .infinity false := hk
    have e : fop .quo .f32 x d = FloatKind.f32.format.write (.number t 0 0) := by
      unfold fop floatBits Ieee.Format.div
      simp only []
      rw [dx, hk']
      simp only [Ieee.Datum.quotient, Option.map_some, Option.getD_some, Bool.xor_false]
      exact canon_of_not (write_not_nan FloatKind.f32.format rfl)
    rw [e]
    exact upD_write _ (.inr rfl) up32
theorem nrm_sure {a l : List Nat} (hv : rosV a l = true) (hg : gtr32 (sumK a a.length) 0 = true) {k : Nat} (hk : k < a.length) :
    (∀ w, fopV .quo .f32 (a.getD k 0) (sumK a a.length) w = nrmQ a k) ∧ fopN .quo .f32 (a.getD k 0) (sumK a a.length) = 0 := by
  have h := (rosV_amts hv).1
  exact fop_sure (up_isn (quo_up2 (amts_at h k hk) (sumK_up h _ (Nat.le_refl _)) hg))
theorem sum_is {a l : List Nat} (hv : rosV a l = true) {r : Nat} (h : canon .f32 r = sumK a a.length) : r = sumK a a.length := by
  have hn : isn .f32 r = false := by rw [← isn_canon, h]; exact up_isn (sumK_up (rosV_amts hv).1 _ (Nat.le_refl _))
  rw [canon_of_not hn] at h
  exact h
theorem sum_leq {a l : List Nat} (hv : rosV a l = true) : leq32 (sumK a a.length) 0 = !gtr32 (sumK a a.length) 0 := by
  have h := order_some (k := .f32) (up_isn (sumK_up (rosV_amts hv).1 _ (Nat.le_refl _))) (show isn .f32 0 = false by decide +kernel)
  unfold gtr32 leq32
  cases ho : FloatKind.f32.format.order (sumK a a.length) 0 with
  | none => rw [ho] at h; cases h
  | some o => cases o <;> rfl
theorem nrm_list {a xs : List Nat} (h1 : xs.length = a.length) (h : ∀ k, k < a.length → xs.getD k 0 = nrmQ a k) : xs = nrmA a := by
  apply List.ext_getElem (by rw [h1, nrmA_length])
  intro k h2 h3
  have := h k (by omega)
  rw [← nrmA_at (by omega)] at this
  simpa [List.getD, h2, h3] using this
theorem nrmO_v {a l : List Nat} (h : rosV a l = false) : nrmO a l = false := by unfold nrmO; rw [h]; rfl
theorem nrmO_g {a l : List Nat} (h : gtr32 (sumK a a.length) 0 = false) : nrmO a l = false := by unfold nrmO; rw [h]; simp
theorem nrmO_yes {a l : List Nat} (h1 : rosV a l = true) (h2 : gtr32 (sumK a a.length) 0 = true) : nrmO a l = rosV (nrmA a) l := by unfold nrmO; rw [h1, h2]; rfl
/-- a struct of two lists in the block Bo -/
structure FR (w0 wr : World) (Bo : Nat) (v v' : Value) (xs ys : List Nat) : Prop where
  blk : BlkL wr Bo [v, v']
  gx : Gr wr w0.heap.size v xs
  gy : Gr wr w0.heap.size v' ys
  nv : ∀ k, v.ownBlock = some k → v'.ownBlock ≠ some k
  nx : v.ownBlock ≠ some Bo
  ny : v'.ownBlock ≠ some Bo
  below : Below w0.heap.size w0 wr
  hB : w0.heap.size ≤ Bo
theorem BlkL.keptR {w w' : World} {B : Nat} {vs : List Value} {row : Option Nat} (h : BlkL w B vs) (hg : w.grownBy w' row) (hne : row ≠ some B) : BlkL w' B vs := by
  have hb : w'.heap[B]? = w.heap[B]? := hg.block B h.1 (fun e => hne e.symm)
  refine ⟨Nat.lt_of_lt_of_le h.1 hg.size, fun j v hj => ?_⟩
  obtain ⟨h1, h2⟩ := h.2 j v hj
  refine ⟨by rw [← h1]; exact World.cell?_of_block (w := w) hb, ?_⟩
  rw [← h2]
  unfold World.frozen?
  simp only [hb]
theorem Gr.ltR {w : World} {B0 : Nat} {v : Value} {xs : List Nat} (h : Gr w B0 v xs) {k : Nat} (hk : v.ownBlock = some k) : B0 ≤ k ∧ k < w.heap.size := World.ownsRow.lt h k hk
theorem Gr.keptR {w w' : World} {B0 : Nat} {v : Value} {xs : List Nat} {row : Option Nat} (h : Gr w B0 v xs) (hg : w.grownBy w' row) (hne : v.ownBlock = none ∨ v.ownBlock ≠ row) : Gr w' B0 v xs := World.ownsRow.kept h hg hne
theorem Gr.setCellR {w : World} {B0 : Nat} {v : Value} {xs : List Nat} (h : Gr w B0 v xs) {p : Addr} (hp : v.ownBlock ≠ some p.block) (u : Value) : Gr (w.setCell p u) B0 v xs := by
  refine ⟨h.1, ?_⟩
  rcases h.2 with hn | ⟨g, cap, cur, rfl, hbg, hgg, rest⟩
  · exact .inl hn
  · refine .inr ⟨g, cap, cur, rfl, hbg, ?_, rest⟩
    have hne : p.block ≠ g := fun e => hp (by rw [e]; rfl)
    rw [← hgg]
    unfold World.setCell
    split <;> (simp only; rw [Array.getElem?_modify, if_neg hne])
/-- the first list has grown and is stored again -/
theorem FR.putX {w0 wr w1 : World} {Bo m : Nat} {v v' v2 : Value} {xs ys zs : List Nat} {o : Obj} (h : FR w0 wr Bo v v' xs ys) (hm : m = zs.length)
    (ho : w1.ownsRow w0.heap.size 25 1 v2 (xs.length + m) (xs.map (Value.float .f32) ++ zs.map (Value.float .f32))) (hg : (wr.alloc o).grownBy w1 v.ownBlock) (hat : v2.ownBlock = v.ownBlock ∨ v2.ownBlock = some (wr.alloc o).heap.size) :
    FR w0 (w1.setCell ⟨Bo, 0, none⟩ v2) Bo v2 v' (xs ++ zs) ys := by
  subst hm
  have hlt := h.blk.1
  have hsz : (wr.alloc o).heap.size = wr.heap.size + 1 := by simp
  have g1 : Gr w1 w0.heap.size v2 (xs ++ zs) := by unfold Gr; simpa using ho
  have n2 : v2.ownBlock ≠ some Bo := by
    rcases hat with e | e
    · rw [e]; exact h.nx
    · rw [e]; intro hh; cases hh; omega
  have gyA : Gr (wr.alloc o) w0.heap.size v' ys := h.gy.below ((Below.refl _ _).alloc (Nat.le_refl _) _)
  have gy1 : Gr w1 w0.heap.size v' ys := by
    refine gyA.keptR hg ?_
    cases e : v'.ownBlock with
    | none => exact .inl rfl
    | some k => exact .inr (fun e2 => h.nv k e2.symm e)
  have b1 : Below w0.heap.size w0 w1 := (h.below.alloc h.below.size o).grown hg (by have := h.below.size; omega) (fun k hk => (h.gx.ltR hk).1)
  have k1 : BlkL w1 Bo [v, v'] := (h.blk.alloc o).keptR hg h.nx
  refine ⟨k1.set (i := 0) (by simp) v2, g1.setCellR n2 _, gy1.setCellR h.ny _, ?_, n2, h.ny, b1.setCell h.hB _, h.hB⟩
  intro k hk hk'
  rcases hat with e | e
  · exact h.nv k (by rw [← e]; exact hk) hk'
  · rw [e] at hk; cases hk
    have := (h.gy.ltR hk').2
    omega
theorem FR.draws {w0 wr : World} {Bo : Nat} {v v' : Value} {xs ys : List Nat} (h : FR w0 wr Bo v v' xs ys) (n : Nat) : FR w0 (wr.drewN n) Bo v v' xs ys :=
  ⟨h.blk.draws n, h.gx.draws n, h.gy.draws n, h.nv, h.nx, h.ny, below_draws h.below n, h.hB⟩
theorem FR.midX {w0 wr w1 : World} {Bo : Nat} {v v' : Value} {xs ys : List Nat} {o : Obj} (h : FR w0 wr Bo v v' xs ys) (hg : (wr.alloc o).grownBy w1 v.ownBlock) : BlkL w1 Bo [v, v'] := (h.blk.alloc o).keptR hg h.nx
theorem Fl.newsR {w : World} {b off : Nat} {xs : List Nat} (h : Fl w (some ⟨b, off, none⟩) xs) : ∀ j u, (xs.map (Value.float .f32))[j]? = some u → w.cell? ((⟨b, off, none⟩ : Addr).add j) = some u := by
  intro j u hj
  simp only [List.getElem?_map, Option.map_eq_some_iff] at hj
  obtain ⟨x, hx, rfl⟩ := hj
  have hlt : j < xs.length := (List.getElem?_eq_some_iff.1 hx).1
  have hc := h.same rfl hlt
  have e : xs.getD j 0 = x := by rw [List.getD_eq_getElem?_getD, hx]; rfl
  rw [e] at hc
  unfold Addr.add
  split
  · rename_i h0; subst h0; exact hc
  · exact hc
theorem oneFR (xs : List Nat) : ∀ u ∈ xs.map (Value.float .f32), u.oneCell' = true := by
  intro u hu
  simp only [List.mem_map] at hu
  obtain ⟨x, -, rfl⟩ := hu
  rfl
/-- a list that grew by another one -/
theorem Gr.moreR {w0 wr w1 : World} {B0 m : Nat} {v v' : Value} {xs ys : List Nat} (h : Gr wr B0 v xs) (hb : Below w0.heap.size w0 wr) (hB : w0.heap.size ≤ B0) (hm : m = ys.length)
    (ho : w1.ownsRow B0 25 1 v' (xs.length + m) (xs.map (Value.float .f32) ++ ys.map (Value.float .f32))) (hg : wr.grownBy w1 v.ownBlock) : Gr w1 B0 v' (xs ++ ys) ∧ Below w0.heap.size w0 w1 := by
  subst hm
  refine ⟨by unfold Gr; simpa using ho, ?_⟩
  have hlt := World.ownsRow.lt h
  exact hb.grown hg hb.size (fun k hk => by have := (hlt k hk).1; omega)
set_option maxHeartbeats 8000000 in
theorem i_GiveR_yes (A L : Option Addr) (ca cl : Nat) (a l : List Nat) (w : World) (h : Rs w A L a l) (hn : FewS a l) (hv : rosV a l = true) :
    Calls Try.prog 36 #[.agg #[.slice A a.length ca, .slice L l.length cl]] w fun e w' => e = .returned (.tuple #[.agg #[.slice A a.length ca, .slice L l.length cl], .bool true]) ∧ Below w.heap.size w w' := by
  have HP := Lib.hid h; clear h
  have HV := Lib.hid hv; clear hv
  have HB : ∀ o1 o2, Hid (Below w.heap.size w ((w.alloc o1).alloc o2)) := fun _ _ => Lib.hid (((Below.refl _ _).alloc (Nat.le_refl _) _).alloc (by simp) _)
  have K0 : ∀ t o, Hid (BlkL ((w.alloc (.cells #[.slice A a.length ca, .slice L l.length cl] t)).alloc o) w.heap.size [.slice A a.length ca, .slice L l.length cl]) := fun t o => Lib.hid ((blkL_at w #[.slice A a.length ca, .slice L l.length cl] t rfl).alloc o)
  have K1 : ∀ t o, Hid (BlkL ((w.alloc o).alloc (.cells #[.slice none 0 0, .slice none 0 0] t)) (w.heap.size + 1) [.slice none 0 0, .slice none 0 0]) := fun t o => Lib.hid (blkL_at (w.alloc o) #[.slice none 0 0, .slice none 0 0] t (by simp))
  go_enter Try.func36, Try.ntmps36
  go_wp2_with fail
  refine (i_ValidRose A L ca cl a l _ (HP.out.below (HB _ _).out) hn).mono ?_
  rintro e w1 ⟨rfl, b1⟩
  have L0 : Hid (BlkL w1 w.heap.size [.slice A a.length ca, .slice L l.length cl]) := Lib.hid ((K0 _ _).out.below b1)
  have L1 : Hid (BlkL w1 (w.heap.size + 1) [.slice none 0 0, .slice none 0 0]) := Lib.hid ((K1 _ _).out.below b1)
  have B1 : Hid (Below w.heap.size w w1) := Lib.hid (below_of (HB _ _).out (HB _ _).out.size b1)
  clear b1 K0 K1 HB
  rw [HV.out]
  obtain ⟨k0, k1⟩ := L0.out.two
  have p0 := (L1.out.2 0 _ rfl).1
  have q0 := (L1.out.2 0 _ rfl).2
  have p1 := (L1.out.2 1 _ rfl).1
  have q1 := (L1.out.2 1 _ rfl).2
  go_wp2
  refine bodyPost_ret (v := .tuple #[.agg #[.slice A a.length ca, .slice L l.length cl], .bool true]) ?_ rfl ⟨rfl, ?_⟩
  · simp [results, Try.results36, go_sem, p0, p1]
  · exact ((B1.out).setCell (p := ⟨w.heap.size + 1, 0, none⟩) (by show w.heap.size ≤ w.heap.size + 1; omega) _).setCell (p := ⟨w.heap.size + 1, 1, none⟩) (by show w.heap.size ≤ w.heap.size + 1; omega) _
set_option maxHeartbeats 8000000 in
theorem i_GiveR_no (A L : Option Addr) (ca cl : Nat) (a l : List Nat) (w : World) (h : Rs w A L a l) (hn : FewS a l) (hv : rosV a l = false) :
    Calls Try.prog 36 #[.agg #[.slice A a.length ca, .slice L l.length cl]] w fun e w' => e = .returned (.tuple #[.agg #[.slice none 0 0, .slice none 0 0], .bool false]) ∧ Below w.heap.size w w' := by
  have HP := Lib.hid h; clear h
  have HV := Lib.hid hv; clear hv
  have HB : ∀ o1 o2, Hid (Below w.heap.size w ((w.alloc o1).alloc o2)) := fun _ _ => Lib.hid (((Below.refl _ _).alloc (Nat.le_refl _) _).alloc (by simp) _)
  have K0 : ∀ t o, Hid (BlkL ((w.alloc (.cells #[.slice A a.length ca, .slice L l.length cl] t)).alloc o) w.heap.size [.slice A a.length ca, .slice L l.length cl]) := fun t o => Lib.hid ((blkL_at w #[.slice A a.length ca, .slice L l.length cl] t rfl).alloc o)
  have K1 : ∀ t o, Hid (BlkL ((w.alloc o).alloc (.cells #[.slice none 0 0, .slice none 0 0] t)) (w.heap.size + 1) [.slice none 0 0, .slice none 0 0]) := fun t o => Lib.hid (blkL_at (w.alloc o) #[.slice none 0 0, .slice none 0 0] t (by simp))
  go_enter Try.func36, Try.ntmps36
  go_wp2_with fail
  refine (i_ValidRose A L ca cl a l _ (HP.out.below (HB _ _).out) hn).mono ?_
  rintro e w1 ⟨rfl, b1⟩
  have L0 : Hid (BlkL w1 w.heap.size [.slice A a.length ca, .slice L l.length cl]) := Lib.hid ((K0 _ _).out.below b1)
  have L1 : Hid (BlkL w1 (w.heap.size + 1) [.slice none 0 0, .slice none 0 0]) := Lib.hid ((K1 _ _).out.below b1)
  have B1 : Hid (Below w.heap.size w w1) := Lib.hid (below_of (HB _ _).out (HB _ _).out.size b1)
  clear b1 K0 K1 HB
  rw [HV.out]
  obtain ⟨k0, k1⟩ := L0.out.two
  have p0 := (L1.out.2 0 _ rfl).1
  have q0 := (L1.out.2 0 _ rfl).2
  have p1 := (L1.out.2 1 _ rfl).1
  have q1 := (L1.out.2 1 _ rfl).2
  go_wp2
  refine bodyPost_ret (v := .tuple #[.agg #[.slice none 0 0, .slice none 0 0], .bool false]) ?_ rfl ⟨rfl, ?_⟩
  · simp [results, Try.results36, go_sem, p0, p1]
  · exact ((B1.out).setCell (p := ⟨w.heap.size + 1, 0, none⟩) (by show w.heap.size ≤ w.heap.size + 1; omega) _).setCell (p := ⟨w.heap.size + 1, 1, none⟩) (by show w.heap.size ≤ w.heap.size + 1; omega) _
set_option maxHeartbeats 8000000 in
theorem s_GiveR_yes (A L : Option Addr) (ca cl : Nat) (a l : List Nat) (w : World) (h : Rs w A L a l) (hn : FewS a l) (hv : rosV a l = true) :
    Calls Try.prog 29 #[.agg #[.slice A a.length ca, .slice L l.length cl]] w fun e w' => e = .returned (.tuple #[.agg #[.slice A a.length ca, .slice L l.length cl], .bool true]) ∧ Below w.heap.size w w' := by
  have HP := Lib.hid h; clear h
  have HV := Lib.hid hv; clear hv
  have HB : ∀ o1 o2, Hid (Below w.heap.size w ((w.alloc o1).alloc o2)) := fun _ _ => Lib.hid (((Below.refl _ _).alloc (Nat.le_refl _) _).alloc (by simp) _)
  have K0 : ∀ t o, Hid (BlkL ((w.alloc (.cells #[.slice A a.length ca, .slice L l.length cl] t)).alloc o) w.heap.size [.slice A a.length ca, .slice L l.length cl]) := fun t o => Lib.hid ((blkL_at w #[.slice A a.length ca, .slice L l.length cl] t rfl).alloc o)
  have K1 : ∀ t o, Hid (BlkL ((w.alloc o).alloc (.cells #[.slice none 0 0, .slice none 0 0] t)) (w.heap.size + 1) [.slice none 0 0, .slice none 0 0]) := fun t o => Lib.hid (blkL_at (w.alloc o) #[.slice none 0 0, .slice none 0 0] t (by simp))
  go_enter Try.func29, Try.ntmps29
  go_wp2_with fail
  refine (s_l04Rose A L ca cl a l _ _ (HP.out.below (HB _ _).out) hn (K0 _ _).out).mono ?_
  rintro e w1 ⟨rfl, n1, hw⟩
  have b1 : Below ((w.alloc (.cells #[.slice A a.length ca, .slice L l.length cl] 27)).alloc (.cells #[.slice none 0 0, .slice none 0 0] 27)).heap.size ((w.alloc (.cells #[.slice A a.length ca, .slice L l.length cl] 27)).alloc (.cells #[.slice none 0 0, .slice none 0 0] 27)) w1 := by rw [hw]; exact below_draws (Below.refl _ _) _
  clear hw
  have L0 : Hid (BlkL w1 w.heap.size [.slice A a.length ca, .slice L l.length cl]) := Lib.hid ((K0 _ _).out.below b1)
  have L1 : Hid (BlkL w1 (w.heap.size + 1) [.slice none 0 0, .slice none 0 0]) := Lib.hid ((K1 _ _).out.below b1)
  have B1 : Hid (Below w.heap.size w w1) := Lib.hid (below_of (HB _ _).out (HB _ _).out.size b1)
  clear b1 K0 K1 HB
  rw [HV.out]
  obtain ⟨k0, k1⟩ := L0.out.two
  have p0 := (L1.out.2 0 _ rfl).1
  have q0 := (L1.out.2 0 _ rfl).2
  have p1 := (L1.out.2 1 _ rfl).1
  have q1 := (L1.out.2 1 _ rfl).2
  go_wp2
  refine bodyPost_ret (v := .tuple #[.agg #[.slice A a.length ca, .slice L l.length cl], .bool true]) ?_ rfl ⟨rfl, ?_⟩
  · simp [results, Try.results29, go_sem, p0, p1]
  · exact ((B1.out).setCell (p := ⟨w.heap.size + 1, 0, none⟩) (by show w.heap.size ≤ w.heap.size + 1; omega) _).setCell (p := ⟨w.heap.size + 1, 1, none⟩) (by show w.heap.size ≤ w.heap.size + 1; omega) _
set_option maxHeartbeats 8000000 in
theorem s_GiveR_no (A L : Option Addr) (ca cl : Nat) (a l : List Nat) (w : World) (h : Rs w A L a l) (hn : FewS a l) (hv : rosV a l = false) :
    Calls Try.prog 29 #[.agg #[.slice A a.length ca, .slice L l.length cl]] w fun e w' => e = .returned (.tuple #[.agg #[.slice none 0 0, .slice none 0 0], .bool false]) ∧ Below w.heap.size w w' := by
  have HP := Lib.hid h; clear h
  have HV := Lib.hid hv; clear hv
  have HB : ∀ o1 o2, Hid (Below w.heap.size w ((w.alloc o1).alloc o2)) := fun _ _ => Lib.hid (((Below.refl _ _).alloc (Nat.le_refl _) _).alloc (by simp) _)
  have K0 : ∀ t o, Hid (BlkL ((w.alloc (.cells #[.slice A a.length ca, .slice L l.length cl] t)).alloc o) w.heap.size [.slice A a.length ca, .slice L l.length cl]) := fun t o => Lib.hid ((blkL_at w #[.slice A a.length ca, .slice L l.length cl] t rfl).alloc o)
  have K1 : ∀ t o, Hid (BlkL ((w.alloc o).alloc (.cells #[.slice none 0 0, .slice none 0 0] t)) (w.heap.size + 1) [.slice none 0 0, .slice none 0 0]) := fun t o => Lib.hid (blkL_at (w.alloc o) #[.slice none 0 0, .slice none 0 0] t (by simp))
  go_enter Try.func29, Try.ntmps29
  go_wp2_with fail
  refine (s_l04Rose A L ca cl a l _ _ (HP.out.below (HB _ _).out) hn (K0 _ _).out).mono ?_
  rintro e w1 ⟨rfl, n1, hw⟩
  have b1 : Below ((w.alloc (.cells #[.slice A a.length ca, .slice L l.length cl] 27)).alloc (.cells #[.slice none 0 0, .slice none 0 0] 27)).heap.size ((w.alloc (.cells #[.slice A a.length ca, .slice L l.length cl] 27)).alloc (.cells #[.slice none 0 0, .slice none 0 0] 27)) w1 := by rw [hw]; exact below_draws (Below.refl _ _) _
  clear hw
  have L0 : Hid (BlkL w1 w.heap.size [.slice A a.length ca, .slice L l.length cl]) := Lib.hid ((K0 _ _).out.below b1)
  have L1 : Hid (BlkL w1 (w.heap.size + 1) [.slice none 0 0, .slice none 0 0]) := Lib.hid ((K1 _ _).out.below b1)
  have B1 : Hid (Below w.heap.size w w1) := Lib.hid (below_of (HB _ _).out (HB _ _).out.size b1)
  clear b1 K0 K1 HB
  rw [HV.out]
  obtain ⟨k0, k1⟩ := L0.out.two
  have p0 := (L1.out.2 0 _ rfl).1
  have q0 := (L1.out.2 0 _ rfl).2
  have p1 := (L1.out.2 1 _ rfl).1
  have q1 := (L1.out.2 1 _ rfl).2
  go_wp2
  refine bodyPost_ret (v := .tuple #[.agg #[.slice none 0 0, .slice none 0 0], .bool false]) ?_ rfl ⟨rfl, ?_⟩
  · simp [results, Try.results29, go_sem, p0, p1]
  · exact ((B1.out).setCell (p := ⟨w.heap.size + 1, 0, none⟩) (by show w.heap.size ≤ w.heap.size + 1; omega) _).setCell (p := ⟨w.heap.size + 1, 1, none⟩) (by show w.heap.size ≤ w.heap.size + 1; omega) _
end Go.Proofs.Ytahbcpjipomcgaa
