/- MixRoses: the specification. No statement is proved here. -/
import Derived.Test.YtahbcpjipomcgaaMxrI
import Derived.Test.YtahbcpjipomcgaaInv6
import Derived.Deep.AppendLies
import Derived.Deep.Cut
namespace Go.Proofs.Ytahbcpjipomcgaa
open Go Go.RowKit
theorem FR.more {w0 wr w' : World} {Bo : Nat} {v v' : Value} {xs ys : List Nat} (h : FR w0 wr Bo v v' xs ys) (b : Below wr.heap.size wr w') : FR w0 w' Bo v v' xs ys :=
  ⟨h.blk.below b, h.gx.below b, h.gy.below b, h.nv, h.nx, h.ny, below_of h.below h.below.size b, h.hB⟩
/-- the first list has grown and is stored again -/
theorem FR.growX {w0 wr w1 : World} {Bo m : Nat} {v v' v2 : Value} {xs ys zs : List Nat} (h : FR w0 wr Bo v v' xs ys) (hm : m = zs.length)
    (ho : w1.ownsRow w0.heap.size 25 1 v2 (xs.length + m) (xs.map (Value.float .f32) ++ zs.map (Value.float .f32))) (hg : wr.grownBy w1 v.ownBlock) (hat : v2.ownBlock = v.ownBlock ∨ v2.ownBlock = some wr.heap.size) :
    FR w0 (w1.setCell ⟨Bo, 0, none⟩ v2) Bo v2 v' (xs ++ zs) ys := by
  subst hm
  have hlt := h.blk.1
  have g1 : Gr w1 w0.heap.size v2 (xs ++ zs) := by unfold Gr; simpa using ho
  have n2 : v2.ownBlock ≠ some Bo := by
    rcases hat with e | e
    · rw [e]; exact h.nx
    · rw [e]; intro hh; cases hh; omega
  have gyA : Gr wr w0.heap.size v' ys := h.gy
  have gy1 : Gr w1 w0.heap.size v' ys := by
    refine gyA.keptR hg ?_
    cases e : v'.ownBlock with
    | none => exact .inl rfl
    | some k => exact .inr (fun e2 => h.nv k e2.symm e)
  have b1 : Below w0.heap.size w0 w1 := h.below.grown hg (by have := h.below.size; omega) (fun k hk => (h.gx.ltR hk).1)
  have k1 : BlkL w1 Bo [v, v'] := h.blk.keptR hg h.nx
  refine ⟨k1.set (i := 0) (by simp) v2, g1.setCellR n2 _, gy1.setCellR h.ny _, ?_, n2, h.ny, b1.setCell h.hB _, h.hB⟩
  intro k hk hk'
  rcases hat with e | e
  · exact h.nv k (by rw [← e]; exact hk) hk'
  · rw [e] at hk; cases hk
    have := (h.gy.ltR hk').2
    omega
/-- the second list has grown and is stored again -/
theorem FR.growY {w0 wr w1 : World} {Bo m : Nat} {v v' v2 : Value} {xs ys zs : List Nat} (h : FR w0 wr Bo v v' xs ys) (hm : m = zs.length)
    (ho : w1.ownsRow w0.heap.size 25 1 v2 (ys.length + m) (ys.map (Value.float .f32) ++ zs.map (Value.float .f32))) (hg : wr.grownBy w1 v'.ownBlock) (hat : v2.ownBlock = v'.ownBlock ∨ v2.ownBlock = some wr.heap.size) :
    FR w0 (w1.setCell ⟨Bo, 1, none⟩ v2) Bo v v2 xs (ys ++ zs) := by
  subst hm
  have hlt := h.blk.1
  have g1 : Gr w1 w0.heap.size v2 (ys ++ zs) := by unfold Gr; simpa using ho
  have n2 : v2.ownBlock ≠ some Bo := by
    rcases hat with e | e
    · rw [e]; exact h.ny
    · rw [e]; intro hh; cases hh; omega
  have gxA : Gr wr w0.heap.size v xs := h.gx
  have gx1 : Gr w1 w0.heap.size v xs := by
    refine gxA.keptR hg ?_
    cases e : v.ownBlock with
    | none => exact .inl rfl
    | some k => exact .inr (fun e2 => h.nv k e e2.symm)
  have b1 : Below w0.heap.size w0 w1 := h.below.grown hg (by have := h.below.size; omega) (fun k hk => (h.gy.ltR hk).1)
  have k1 : BlkL w1 Bo [v, v'] := h.blk.keptR hg h.ny
  refine ⟨k1.set (i := 1) (by simp) v2, gx1.setCellR h.nx _, g1.setCellR n2 _, ?_, h.nx, n2, b1.setCell h.hB _, h.hB⟩
  intro k hk hk'
  rcases hat with e | e
  · exact h.nv k hk (by rw [← e]; exact hk')
  · rw [e] at hk'; cases hk'
    have := (h.gx.ltR hk).2
    omega
theorem FR.owned {w0 w : World} {Bo : Nat} {v1 v2 : Value} {ys zs : List Nat} (h : FR w0 w Bo v1 v2 ys zs) (hy : ys ≠ []) (hz : zs ≠ []) : ∃ A L c1 c2 b1 b2, v1 = .slice A ys.length c1 ∧ v2 = .slice L zs.length c2 ∧ OwnR2 w w0.heap.size A L b1 b2 ys zs := by
  obtain ⟨A, c1, b1, rfl, o1⟩ := h.gx.own
  obtain ⟨L, c2, b2, rfl, o2⟩ := h.gy.own
  refine ⟨A, L, c1, c2, b1, b2, rfl, rfl, o1, o2, ?_⟩
  rcases o1 with e | ⟨rfl, -, -⟩
  · exact absurd e hy
  rcases o2 with e | ⟨rfl, -, -⟩
  · exact absurd e hz
  intro e
  exact h.nv b1 rfl (by rw [e]; rfl)
/-- a slice of one number, made in the region -/
def SVa (wr : World) (q : Nat) (w : World) (v : Value) : Prop := ∃ (B r : Nat), v = .slice (some ⟨B, 0, none⟩) 1 1 ∧ canon .f32 r = q ∧ wr.heap.size ≤ B ∧ BlkL w B [.float .f32 r]
theorem SVa.made {wr w : World} {q r : Nat} (h : canon .f32 r = q) (hb : Below wr.heap.size wr w) : SVa wr q (w.alloc (.cells #[.float .f32 r] 25)) (.slice (some ⟨w.heap.size, 0, none⟩) 1 1) :=
  ⟨w.heap.size, r, rfl, h, hb.size, blkL_at w #[.float .f32 r] _ rfl⟩
theorem SVa.grown {wr w w' : World} {q : Nat} {v : Value} {row : Option Nat} (h : SVa wr q w v) (hg : w.grownBy w' row) (hne : ∀ k, row = some k → k < wr.heap.size) : SVa wr q w' v := by
  obtain ⟨B, r, e, h1, h2, h3⟩ := h
  exact ⟨B, r, e, h1, h2, h3.keptR hg (fun e => by have := hne _ e; omega)⟩
theorem SVa.setC {wr w : World} {q : Nat} {v : Value} (h : SVa wr q w v) {p : Addr} (hp : p.block < wr.heap.size) (u : Value) : SVa wr q (w.setCell p u) v := by
  obtain ⟨B, r, e, h1, h2, h3⟩ := h
  exact ⟨B, r, e, h1, h2, h3.other (by omega) u⟩
/-- the list with one more number, until it is stored -/
def SVx (w0 : World) (Bo : Nat) (v v' : Value) (xs ys : List Nat) (q : Nat) (w : World) (u : Value) : Prop := ∃ g cap, u = .slice (some ⟨g, 0, none⟩) (xs.length + 1) cap ∧ (w.cell? ⟨Bo, 0, none⟩ = some v → ∃ r, canon .f32 r = q ∧ BlkL w Bo [v, v'] ∧ FR w0 (w.setCell ⟨Bo, 0, none⟩ u) Bo u v' (xs ++ [r]) ys)
def SVy (w0 : World) (Bo : Nat) (v v' : Value) (xs ys : List Nat) (q : Nat) (w : World) (u : Value) : Prop := ∃ g cap, u = .slice (some ⟨g, 0, none⟩) (ys.length + 1) cap ∧ (w.cell? ⟨Bo, 1, none⟩ = some v' → ∃ r, canon .f32 r = q ∧ BlkL w Bo [v, v'] ∧ FR w0 (w.setCell ⟨Bo, 1, none⟩ u) Bo v u xs (ys ++ [r]))
def FinX (w0 : World) (Bo : Nat) (v' : Value) (xs ys : List Nat) (q : Nat) (w : World) : Prop := ∃ r g cap, canon .f32 r = q ∧ FR w0 w Bo (.slice (some ⟨g, 0, none⟩) (xs.length + 1) cap) v' (xs ++ [r]) ys
def FinY (w0 : World) (Bo : Nat) (v : Value) (xs ys : List Nat) (q : Nat) (w : World) : Prop := ∃ r g cap, canon .f32 r = q ∧ FR w0 w Bo v (.slice (some ⟨g, 0, none⟩) (ys.length + 1) cap) xs (ys ++ [r])
theorem SVx.old {w0 w : World} {Bo : Nat} {v v' u : Value} {xs ys : List Nat} {q : Nat} {W : World} (h : SVx w0 Bo v v' xs ys q W u) {n c : Nat} {A : Option Addr} (hv : v = .slice A n c) (hn : n = xs.length) {A' : Option Addr} {c' : Nat} (hc : w.cell? ⟨Bo, 0, none⟩ = some (.slice A' (xs.length + 1) c')) : SVx w0 Bo v v' xs ys q w u := by
  obtain ⟨g, cap, e, -⟩ := h
  refine ⟨g, cap, e, fun h => ?_⟩
  rw [hc, hv] at h
  simp only [Option.some.injEq, Value.slice.injEq] at h
  omega
theorem SVy.old {w0 w : World} {Bo : Nat} {v v' u : Value} {xs ys : List Nat} {q : Nat} {W : World} (h : SVy w0 Bo v v' xs ys q W u) {n c : Nat} {A : Option Addr} (hv : v' = .slice A n c) (hn : n = ys.length) {A' : Option Addr} {c' : Nat} (hc : w.cell? ⟨Bo, 1, none⟩ = some (.slice A' (ys.length + 1) c')) : SVy w0 Bo v v' xs ys q w u := by
  obtain ⟨g, cap, e, -⟩ := h
  refine ⟨g, cap, e, fun h => ?_⟩
  rw [hc, hv] at h
  simp only [Option.some.injEq, Value.slice.injEq] at h
  omega
/-- worlds of a region that appends and stores: as they were, but for new blocks, until it appends; the cell as it was until it stores -/
structure CR (W : World) (p : Addr) (v : Value) (ap st : Nat) (Fin : World → Prop) (listed : Array Bool) (ww : World) : Prop where
  low : listed.getD ap false = false → Below W.heap.size W ww
  cell : listed.getD st false = false → ww.cell? p = some v
  fin : listed.getD st false = true → Fin ww
theorem CR.start {W : World} {p : Addr} {v : Value} {ap st n : Nat} {Fin : World → Prop} (hc : W.cell? p = some v) : CR W p v ap st Fin (Array.replicate n false) { W with drawn := W.drawn + 1 } :=
  ⟨fun _ => (Below.refl _ _).drew, fun _ => hc, fun h => by simp [Array.getD] at h⟩
theorem CR.step {W ww ww' : World} {p : Addr} {v : Value} {ap st k n : Nat} {Fin : World → Prop} {listed : Array Bool} (h : CR W p v ap st Fin listed ww) (hn : listed.size = n) (hi : k < n) (hk : k ≠ ap) (hs : k ≠ st) (hl : listed.getD st false = false) (hp : p.block < W.heap.size) (hb : Below ww.heap.size ww ww') (hz : W.heap.size ≤ ww.heap.size) : CR W p v ap st Fin (listed.setIfInBounds k true) ww' := by
  refine ⟨fun hl' => ?_, fun _ => ?_, fun hl' => ?_⟩
  · rw [getD_set (show k < listed.size by omega), if_neg hk] at hl'
    exact below_of (h.low hl') (h.low hl').size hb
  · rw [hb.cell (p := p) (by omega)]; exact h.cell hl
  · rw [getD_set (show k < listed.size by omega), if_neg hs] at hl'
    exact Bool.noConfusion (hl.symm.trans hl')
theorem CR.same {W ww : World} {p : Addr} {v : Value} {ap st k n : Nat} {Fin : World → Prop} {listed : Array Bool} (h : CR W p v ap st Fin listed ww) (hn : listed.size = n) (hi : k < n) (hk : k ≠ ap) (hs : k ≠ st) : CR W p v ap st Fin (listed.setIfInBounds k true) ww := by
  refine ⟨fun hl' => ?_, fun hl' => ?_, fun hl' => ?_⟩
  · rw [getD_set (show k < listed.size by omega), if_neg hk] at hl'; exact h.low hl'
  · rw [getD_set (show k < listed.size by omega), if_neg hs] at hl'; exact h.cell hl'
  · rw [getD_set (show k < listed.size by omega), if_neg hs] at hl'; exact h.fin hl'
theorem CR.app {W ww ww' : World} {p : Addr} {v : Value} {ap st n : Nat} {Fin : World → Prop} {listed : Array Bool} (hn : listed.size = n) (hi : ap < n) (hs : ap ≠ st) (hl : listed.getD st false = false) (hc : ww'.cell? p = some v) (_ : CR W p v ap st Fin listed ww) : CR W p v ap st Fin (listed.setIfInBounds ap true) ww' := by
  refine ⟨fun hl' => ?_, fun _ => hc, fun hl' => ?_⟩
  · rw [getD_set (show ap < listed.size by omega), if_pos rfl] at hl'; cases hl'
  · rw [getD_set (show ap < listed.size by omega), if_neg hs] at hl'
    exact Bool.noConfusion (hl.symm.trans hl')
theorem CR.done {W ww' : World} {p : Addr} {v : Value} {ap st n : Nat} {Fin : World → Prop} {listed : Array Bool} (hn : listed.size = n) (hi : st < n) (hs : st ≠ ap) (hl : listed.getD ap false = true) (hf : Fin ww') : CR W p v ap st Fin (listed.setIfInBounds st true) ww' := by
  refine ⟨fun hl' => ?_, fun hl' => ?_, fun _ => hf⟩
  · rw [getD_set (show st < listed.size by omega), if_neg hs] at hl'
    exact Bool.noConfusion (hl'.symm.trans hl)
  · rw [getD_set (show st < listed.size by omega), if_pos rfl] at hl'; cases hl'
theorem s_GiveRQ (R1 R2 : Option Addr) (d1 d2 b1 b2 B0 : Nat) (xs ys X Y : List Nat) (O : Bool) (w : World) (h : OwnR2 w B0 R1 R2 b1 b2 xs ys) (c1 : CL xs X) (c2 : CL ys Y) (hO : O = rosV X Y) (hn : FewS xs ys) :
    Calls Try.prog 29 #[.agg #[.slice R1 xs.length d1, .slice R2 ys.length d2]] w fun e w' => ∃ u, e = .returned u ∧ WGiv B0 O X Y w' u ∧ Below w.heap.size w w' := by
  have hv := rosV_CL c1 c2
  cases v : rosV X Y
  · refine (s_GiveR_no R1 R2 d1 d2 xs ys w h.fl hn (by rw [hv, v])).mono ?_
    rintro e w' ⟨rfl, hb⟩
    rw [hO, v]
    exact ⟨_, rfl, ⟨none, none, 0, 0, 0, 1, rfl, .inl rfl, .inl rfl, by decide⟩, hb⟩
  · have v' : rosV xs ys = true := by rw [hv, v]
    have e1 : xs = X := c1.eq (amtsIsnR (rosV_amts v').1)
    have e2 : ys = Y := c2.eq (amtsIsnR (rosV_amts v').2)
    subst e1 e2
    refine (s_GiveR_yes R1 R2 d1 d2 xs ys w h.fl hn v).mono ?_
    rintro e w' ⟨rfl, hb⟩
    rw [hO, v]
    exact ⟨_, rfl, ⟨R1, R2, d1, d2, b1, b2, rfl, h.below hb⟩, hb⟩
set_option maxHeartbeats 16000000 in
set_option maxRecDepth 100000 in
theorem s_MixRoses (A L B M : Option Addr) (ca cl cb cm : Nat) (a l b m : List Nat) (u : Nat) (w : World) (h : Rs w A L a l) (hn : FewS a l) (h' : Rs w B M b m) (hn' : FewS b m) :
    Calls Try.prog 8 #[.agg #[.slice A a.length ca, .slice L l.length cl], .agg #[.slice B b.length cb, .slice M m.length cm], .float .f32 u] w fun e w' => ∃ (R1 R2 : Option Addr) (c1 c2 g1 g2 : Nat), e = .returned (.tuple #[.agg #[.slice R1 (gLn (mgO a l b m u) (mxL a b u)).length c1, .slice R2 (gLn (mgO a l b m u) (mxL l m u)).length c2], .bool (mgO a l b m u)]) ∧ OwnR2 w' w.heap.size R1 R2 g1 g2 (gLn (mgO a l b m u) (mxL a b u)) (gLn (mgO a l b m u) (mxL l m u)) ∧ Below w.heap.size w w' := by
  have HP := Lib.hid h
  have HQ := Lib.hid h'
  have HNF := Lib.hid hn
  have HNG := Lib.hid hn'
  clear h h' hn hn'
  obtain ⟨i0, hi, hz0, hz1, hz2⟩ := info_parts f32_info
  have HI := Lib.hid hi
  have HZ0 := Lib.hid hz0
  have HZ1 := Lib.hid hz1
  have HZ2 := Lib.hid hz2
  clear hi hz0 hz1 hz2
  obtain ⟨w0, hw0⟩ : ∃ x, x = ((w.alloc (.cells #[.slice A a.length ca, .slice L l.length cl] 27)).alloc (.cells #[.slice B b.length cb, .slice M m.length cm] 27)).alloc (.cells #[.slice none 0 0, .slice none 0 0] 27) := ⟨_, rfl⟩
  have L0 : Hid (BlkL w0 w.heap.size [.slice A a.length ca, .slice L l.length cl]) := Lib.hid (by rw [hw0]; exact ((blkL_at w #[.slice A a.length ca, .slice L l.length cl] _ rfl).alloc _).alloc _)
  have M0 : Hid (BlkL w0 (w.heap.size + 1) [.slice B b.length cb, .slice M m.length cm]) := Lib.hid (by rw [hw0]; exact (blkL_at (w.alloc _) #[.slice B b.length cb, .slice M m.length cm] _ (by simp)).alloc _)
  have R0 : Hid (BlkL w0 (w.heap.size + 2) [.slice none 0 0, .slice none 0 0]) := Lib.hid (by rw [hw0]; exact blkL_at ((w.alloc _).alloc _) #[.slice none 0 0, .slice none 0 0] _ (by simp))
  have B0 : Hid (Below w.heap.size w w0) := Lib.hid (by rw [hw0]; exact (((Below.refl _ _).alloc (Nat.le_refl _) _).alloc (by simp) _).alloc (by simp <;> omega) _)
  have Z0 : Hid (w.heap.size + 3 ≤ w0.heap.size) := Lib.hid (by rw [hw0]; simp)
  obtain ⟨O, hO⟩ : ∃ x, x = mgO a l b m u := ⟨_, rfl⟩
  rw [← hO]
  have HGO := Lib.hid hO
  clear hO
  go_enter Try.func8, Try.ntmps8
  go_wp2_with fail
  rw [← hw0]
  clear hw0
  refine (s_l04Rose A L ca cl a l w.heap.size _ (HP.out.below B0.out) HNF.out L0.out).mono ?_
  rintro e w1 ⟨rfl, n1, hw⟩
  have b1 : Below w0.heap.size w0 w1 := by rw [hw]; exact below_draws (Below.refl _ _) _
  clear hw
  have B1 : Hid (Below w.heap.size w w1) := Lib.hid (below_of B0.out B0.out.size b1)
  have L1 : Hid (BlkL w1 w.heap.size [.slice A a.length ca, .slice L l.length cl]) := Lib.hid (L0.out.below b1)
  have M1 : Hid (BlkL w1 (w.heap.size + 1) [.slice B b.length cb, .slice M m.length cm]) := Lib.hid (M0.out.below b1)
  have R1 : Hid (BlkL w1 (w.heap.size + 2) [.slice none 0 0, .slice none 0 0]) := Lib.hid (R0.out.below b1)
  have Z1 : Hid (w.heap.size + 3 ≤ w1.heap.size) := Lib.hid (by have := b1.size; have := Z0.out; omega)
  clear b1
  cases v : rosV a l
  · skip
    have HN : Hid (O = false) := Lib.hid (HGO.out.trans (mgO_a v))
    have p0 := (R1.out.2 0 _ rfl).1
    have q0 := (R1.out.2 0 _ rfl).2
    have p1 := (R1.out.2 1 _ rfl).1
    have q1 := (R1.out.2 1 _ rfl).2
    go_wp2
    refine bodyPost_ret (v := .tuple #[.agg #[.slice none 0 0, .slice none 0 0], .bool false]) ?_ rfl ?_
    · simp [results, Try.results8, go_sem, p0, p1]
    · rw [HN.out]
      exact ⟨none, none, 0, 0, 0, 1, rfl, ⟨.inl rfl, .inl rfl, by decide⟩, ((B1.out).setCell (p := ⟨w.heap.size + 2, 0, none⟩) (by show w.heap.size ≤ w.heap.size + 2; omega) _).setCell (p := ⟨w.heap.size + 2, 1, none⟩) (by show w.heap.size ≤ w.heap.size + 2; omega) _⟩
  · have V := Lib.hid v
    clear v
    go_wp2_with fail
    refine (s_l04Rose B M cb cm b m (w.heap.size + 1) _ (HQ.out.below B1.out) HNG.out M1.out).mono ?_
    rintro e w2 ⟨rfl, n2, hw⟩
    have b2 : Below w1.heap.size w1 w2 := by rw [hw]; exact below_draws (Below.refl _ _) _
    clear hw
    have B2 : Hid (Below w.heap.size w w2) := Lib.hid (below_of B1.out B1.out.size b2)
    have L2 : Hid (BlkL w2 w.heap.size [.slice A a.length ca, .slice L l.length cl]) := Lib.hid (L1.out.below b2)
    have M2 : Hid (BlkL w2 (w.heap.size + 1) [.slice B b.length cb, .slice M m.length cm]) := Lib.hid (M1.out.below b2)
    have R2 : Hid (BlkL w2 (w.heap.size + 2) [.slice none 0 0, .slice none 0 0]) := Lib.hid (R1.out.below b2)
    have Z2 : Hid (w.heap.size + 3 ≤ w2.heap.size) := Lib.hid (by have := b2.size; have := Z1.out; omega)
    clear b2
    cases v : rosV b m
    · skip
      have HN : Hid (O = false) := Lib.hid (HGO.out.trans (mgO_b v))
      have p0 := (R2.out.2 0 _ rfl).1
      have q0 := (R2.out.2 0 _ rfl).2
      have p1 := (R2.out.2 1 _ rfl).1
      have q1 := (R2.out.2 1 _ rfl).2
      go_wp2
      refine bodyPost_ret (v := .tuple #[.agg #[.slice none 0 0, .slice none 0 0], .bool false]) ?_ rfl ?_
      · simp [results, Try.results8, go_sem, p0, p1]
      · rw [HN.out]
        exact ⟨none, none, 0, 0, 0, 1, rfl, ⟨.inl rfl, .inl rfl, by decide⟩, ((B2.out).setCell (p := ⟨w.heap.size + 2, 0, none⟩) (by show w.heap.size ≤ w.heap.size + 2; omega) _).setCell (p := ⟨w.heap.size + 2, 1, none⟩) (by show w.heap.size ≤ w.heap.size + 2; omega) _⟩
    · have V2 := Lib.hid v
      clear v
      have k0 := (L2.out.2 0 _ rfl).1
      have j0 := (M2.out.2 0 _ rfl).1
      by_cases hab : a.length = b.length
      case neg =>
        have HAB := Lib.hid hab
        have hne : ((a.length : Int) != (b.length : Int)) = true := by rw [bne_iff_ne]; omega
        have HN : Hid (O = false) := Lib.hid (HGO.out.trans (mgO_n HAB.out))
        have p0 := (R2.out.2 0 _ rfl).1
        have q0 := (R2.out.2 0 _ rfl).2
        have p1 := (R2.out.2 1 _ rfl).1
        have q1 := (R2.out.2 1 _ rfl).2
        go_wp2
        refine bodyPost_ret (v := .tuple #[.agg #[.slice none 0 0, .slice none 0 0], .bool false]) ?_ rfl ?_
        · simp [results, Try.results8, go_sem, p0, p1]
        · rw [HN.out]
          exact ⟨none, none, 0, 0, 0, 1, rfl, ⟨.inl rfl, .inl rfl, by decide⟩, ((B2.out).setCell (p := ⟨w.heap.size + 2, 0, none⟩) (by show w.heap.size ≤ w.heap.size + 2; omega) _).setCell (p := ⟨w.heap.size + 2, 1, none⟩) (by show w.heap.size ≤ w.heap.size + 2; omega) _⟩
      case pos =>
        have HAB := Lib.hid hab
        have hne : ((a.length : Int) != (b.length : Int)) = false := by simp; omega
        clear hab
        go_wp2_with fail
        refine (s_l04Share _ _).mono ?_
        rintro e w2 ⟨rfl, rfl⟩
        clear hne k0 j0
        cases v : within u 0 1065353216
        · skip
          have HN : Hid (O = false) := Lib.hid (HGO.out.trans (mgO_u v))
          have p0 := (R2.out.2 0 _ rfl).1
          have q0 := (R2.out.2 0 _ rfl).2
          have p1 := (R2.out.2 1 _ rfl).1
          have q1 := (R2.out.2 1 _ rfl).2
          go_wp2
          refine bodyPost_ret (v := .tuple #[.agg #[.slice none 0 0, .slice none 0 0], .bool false]) ?_ rfl ?_
          · simp [results, Try.results8, go_sem, p0, p1]
          · rw [HN.out]
            exact ⟨none, none, 0, 0, 0, 1, rfl, ⟨.inl rfl, .inl rfl, by decide⟩, ((B2.out).setCell (p := ⟨w.heap.size + 2, 0, none⟩) (by show w.heap.size ≤ w.heap.size + 2; omega) _).setCell (p := ⟨w.heap.size + 2, 1, none⟩) (by show w.heap.size ≤ w.heap.size + 2; omega) _⟩
        · have V3 := Lib.hid v
          clear v
          have HO : Hid (O = rosV (mxL a b u) (mxL l m u)) := Lib.hid (HGO.out.trans (mgO_yes V.out V2.out HAB.out V3.out))
          obtain ⟨s1, s2, s3⟩ := rosV_sized V.out
          obtain ⟨s1', s2', s3'⟩ := rosV_sized V2.out
          have hab := HAB.out
          have HS : Hid (1 ≤ a.length ∧ a.length ≤ 16 ∧ l.length = a.length ∧ b.length = a.length ∧ m.length = a.length) := Lib.hid (by omega)
          obtain ⟨ba, oa, rfl, hba, -⟩ := (HP.out.1.below B2.out).at_ (k := 0) (by omega)
          obtain ⟨bl, ol, rfl, hbl, -⟩ := (HP.out.2.below B2.out).at_ (k := 0) (by omega)
          obtain ⟨bb, ob, rfl, hbb, -⟩ := (HQ.out.1.below B2.out).at_ (k := 0) (by omega)
          obtain ⟨bm, om, rfl, hbm, -⟩ := (HQ.out.2.below B2.out).at_ (k := 0) (by omega)
          clear s1 s2 s3 s1' s2' s3' hab HGO hba hbl hbb hbm
          have HF0 : Hid (FR w2 (((w2.alloc (.cells #[] 25)).alloc (.cells #[] 25)).alloc (.cells #[.slice (some ⟨w2.heap.size, 0, none⟩) 0 0, .slice (some ⟨w2.heap.size + 1, 0, none⟩) 0 0] 27)) (w2.heap.size + 2) (.slice (some ⟨w2.heap.size, 0, none⟩) 0 0) (.slice (some ⟨w2.heap.size + 1, 0, none⟩) 0 0) [] []) := Lib.hid (by
            refine ⟨blkL_at ((w2.alloc _).alloc _) #[_, _] _ (by simp), ?_, ?_, ?_, ?_, ?_, (((Below.refl _ _).alloc (Nat.le_refl _) _).alloc (by simp) _).alloc (by simp; omega) _, by omega⟩
            · have h1 := Gr.made w2 w2.heap.size 0 #[] (Nat.le_refl _) (Nat.zero_le _) rfl
              exact (h1.below ((Below.refl _ _).alloc (Nat.le_refl _) _)).below ((Below.refl _ _).alloc (Nat.le_refl _) _)
            · have h1 := Gr.made (w2.alloc (.cells #[] 25)) w2.heap.size 0 #[] (by simp) (Nat.zero_le _) rfl
              rw [show (w2.alloc (.cells #[] 25)).heap.size = w2.heap.size + 1 by simp] at h1
              exact h1.below ((Below.refl _ _).alloc (Nat.le_refl _) _)
            · intro k hk hk'
              have hk : w2.heap.size = k := Option.some.inj hk
              have hk' : w2.heap.size + 1 = k := Option.some.inj hk'
              omega
            · intro hk
              have hk : w2.heap.size = w2.heap.size + 2 := Option.some.inj hk
              omega
            · intro hk
              have hk : w2.heap.size + 1 = w2.heap.size + 2 := Option.some.inj hk
              omega)
          have HC0 : Hid (CL [] ((mxL a b u).take 0) ∧ CL [] ((mxL l m u).take 0)) := Lib.hid ⟨CL.rfl' _, CL.rfl' _⟩
          go_wp2
          go_loopw [9] (fun i wr => ∃ (k : Nat) (v v' : Value) (xs ys : List Nat), k ≤ a.length ∧ i = .int .i64 k ∧ Hid (FR w2 wr (w2.heap.size + 2) v v' xs ys) ∧ Hid (CL xs ((mxL a b u).take k) ∧ CL ys ((mxL l m u).take k))) (fun i _ => a.length - (intOf i).toNat)
          case atStart => exact ⟨0, _, _, [], [], Nat.zero_le _, rfl, HF0, HC0⟩
          case round =>
            obtain ⟨k, v, v', xs, ys, hk, rfl, HF, HCL⟩ := hrel
            clear HF0 HC0
            obtain ⟨Ax, cx, gx, rfl, -⟩ := HF.out.gx.own
            obtain ⟨Ay, cy, gy, rfl, -⟩ := HF.out.gy.own
            have k0 := ((L2.out.below HF.out.below).2 0 _ rfl).1
            by_cases hlt : k < a.length
            · have hlt2 : k < l.length := by have := HS.out; omega
              have hltb : k < b.length := by have := HS.out; omega
              have hltm : k < m.length := by have := HS.out; omega
              have HLX : Hid (xs.length ≤ 16 ∧ ys.length ≤ 16) := Lib.hid (by
                have h1 := HCL.out.1.1
                have h2 := HCL.out.2.1
                rw [List.length_take] at h1 h2
                have := HS.out
                omega)
              have HCA : Hid (∀ ww, Below w2.heap.size w2 ww → ww.cell? ⟨ba, oa + k, none⟩ = some (.float .f32 (a.getD k 0))) := Lib.hid (fun ww hb => ((HP.out.1.below B2.out).below hb).same rfl hlt)
              have HCB : Hid (∀ ww, Below w2.heap.size w2 ww → ww.cell? ⟨bb, ob + k, none⟩ = some (.float .f32 (b.getD k 0))) := Lib.hid (fun ww hb => ((HQ.out.1.below B2.out).below hb).same rfl hltb)
              have HCL2 : Hid (∀ ww, Below w2.heap.size w2 ww → ww.cell? ⟨bl, ol + k, none⟩ = some (.float .f32 (l.getD k 0))) := Lib.hid (fun ww hb => ((HP.out.2.below B2.out).below hb).same rfl hlt2)
              have HCM : Hid (∀ ww, Below w2.heap.size w2 ww → ww.cell? ⟨bm, om + k, none⟩ = some (.float .f32 (m.getD k 0))) := Lib.hid (fun ww hb => ((HQ.out.2.below B2.out).below hb).same rfl hltm)
              have HTX : Hid ((mxL a b u).take (k + 1) = (mxL a b u).take k ++ [(mxL a b u).getD k 0] ∧ canon .f32 ((mxL a b u).getD k 0) = mxV (a.getD k 0) (b.getD k 0) u) := Lib.hid ⟨take_snoc (by rw [mxL_length]; omega), by rw [mxL_at hlt]; exact canon_fop ..⟩
              have HTY : Hid ((mxL l m u).take (k + 1) = (mxL l m u).take k ++ [(mxL l m u).getD k 0] ∧ canon .f32 ((mxL l m u).getD k 0) = mxV (l.getD k 0) (m.getD k 0) u) := Lib.hid ⟨take_snoc (by rw [mxL_length]; omega), by rw [mxL_at hlt2]; exact canon_fop ..⟩
              generalize a.getD k 0 = pa at HCA HTX
              generalize b.getD k 0 = pb at HCB HTX
              generalize l.getD k 0 = pl at HCL2 HTY
              generalize m.getD k 0 = pm at HCM HTY
              go_wp2
              clear k0
              refine wp_region_inv6 (fun iq wv v => match iq with
                | 0 => v = .pointer (some ⟨(w2.heap.size + 2), 0, none⟩)
                | 1 => v = .slice Ax xs.length cx
                | 2 => v = .pointer (some ⟨w.heap.size, 0, none⟩)
                | 3 => v = .slice (some ⟨ba, oa, none⟩) a.length ca
                | 4 => v = .int .i64 k
                | 5 => v = .pointer (some ⟨ba, oa + k, none⟩)
                | 6 => v = .float .f32 pa
                | 7 => v = .float .f32 u
                | 8 => v = .pointer (some ⟨(w.heap.size + 1), 0, none⟩)
                | 9 => v = .slice (some ⟨bb, ob, none⟩) b.length cb
                | 10 => v = .int .i64 k
                | 11 => v = .pointer (some ⟨bb, ob + k, none⟩)
                | 12 => v = .float .f32 pb
                | 13 => v = .pointer (some ⟨w.heap.size, 0, none⟩)
                | 14 => v = .slice (some ⟨ba, oa, none⟩) a.length ca
                | 15 => v = .int .i64 k
                | 16 => v = .pointer (some ⟨ba, oa + k, none⟩)
                | 17 => v = .float .f32 pa
                | 18 => ∃ r, v = .float .f32 r ∧ canon .f32 r = fop .sub .f32 (canon .f32 pb) (canon .f32 pa)
                | 19 => ∃ r, v = .float .f32 r ∧ canon .f32 r = fop .mul .f32 (canon .f32 u) (fop .sub .f32 (canon .f32 pb) (canon .f32 pa))
                | 20 => ∃ r, v = .float .f32 r ∧ canon .f32 r = mxV pa pb u
                | 21 => SVa wr (mxV pa pb u) wv v
                | 22 => SVx w2 (w2.heap.size + 2) (.slice Ax xs.length cx) (.slice Ay ys.length cy) xs ys (mxV pa pb u) wv v
                | 23 => v = .pointer (some ⟨(w2.heap.size + 2), 0, none⟩)
                | 24 => True
                | _ => False) (CR wr ⟨(w2.heap.size + 2), 0, none⟩ (.slice Ax xs.length cx) 22 24 (FinX w2 (w2.heap.size + 2) (.slice Ay ys.length cy) xs ys (mxV pa pb u))) (by kernel_rfl) (by kernel_rfl) (CR.start (HF.out.blk.2 0 _ rfl).1) ?hop ?hend
              case hop =>
                intro q o hq listed act wq hI hnot hcl hall
                have hC := hI.cls
                have hBo : (w2.heap.size + 2) < wr.heap.size := HF.out.blk.1
                rcases q with _ | _ | _ | _ | _ | _ | _ | _ | _ | _ | _ | _ | _ | _ | _ | _ | _ | _ | _ | _ | _ | _ | _ | _ | _ | q
                · simp at hq; subst hq
                  have h24 : listed.getD 24 false = false := hcl.not (j := 24) (i := 0) (e := ⟨0, .phase⟩) rfl (by simp) rfl rfl hnot
                  have g8 : act.tmps[8]?.getD undef = .pointer (some ⟨(w2.heap.size + 2), 0, none⟩) := hI.kept 8 (by kernel_rfl)
                  have hC2 := hC.same (k := 0) hI.len (by decide) (by decide) (by decide)
                  clear hI hall hnot hcl hC h24
                  refine .inl ⟨wanted_none rfl, ?_⟩
                  unfold Oper.wp
                  go_simp
                  all_goals first | exact ⟨_, rfl, fun _ _ _ h => h, rfl, hC2⟩ | exact ⟨_, rfl, rfl, hC2⟩ | exact ⟨rfl, hC2⟩ | exact hC2 | exact ⟨_, rfl, hC2⟩ | exact ⟨fun _ _ _ h => h, rfl, hC2⟩
                · simp at hq; subst hq
                  have h24 : listed.getD 24 false = false := hcl.not (j := 24) (i := 1) (e := ⟨1, .phase⟩) rfl (by simp) rfl rfl hnot
                  have g41 : act.tmps[41]?.getD undef = .pointer (some ⟨(w2.heap.size + 2), 0, none⟩) := hI.has 0 41 rfl (hall ⟨0, .data⟩ (by simp) rfl)
                  have hc := hC.cell h24
                  have hC2 := hC.same (k := 1) hI.len (by decide) (by decide) (by decide)
                  clear hI hall hnot hcl hC h24
                  refine .inl ⟨wanted_none rfl, ?_⟩
                  unfold Oper.wp
                  go_simp
                  all_goals first | exact ⟨_, rfl, fun _ _ _ h => h, rfl, hC2⟩ | exact ⟨_, rfl, rfl, hC2⟩ | exact ⟨rfl, hC2⟩ | exact hC2 | exact ⟨_, rfl, hC2⟩ | exact ⟨fun _ _ _ h => h, rfl, hC2⟩
                · simp at hq; subst hq
                  have h24 : listed.getD 24 false = false := hcl.not (j := 24) (i := 2) (e := ⟨2, .phase⟩) rfl (by simp) rfl rfl hnot
                  have g3 : act.tmps[3]?.getD undef = .pointer (some ⟨w.heap.size, 0, none⟩) := hI.kept 3 (by kernel_rfl)
                  have hC2 := hC.same (k := 2) hI.len (by decide) (by decide) (by decide)
                  clear hI hall hnot hcl hC h24
                  refine .inl ⟨wanted_none rfl, ?_⟩
                  unfold Oper.wp
                  go_simp
                  all_goals first | exact ⟨_, rfl, fun _ _ _ h => h, rfl, hC2⟩ | exact ⟨_, rfl, rfl, hC2⟩ | exact ⟨rfl, hC2⟩ | exact hC2 | exact ⟨_, rfl, hC2⟩ | exact ⟨fun _ _ _ h => h, rfl, hC2⟩
                · simp at hq; subst hq
                  have h24 : listed.getD 24 false = false := hcl.not (j := 24) (i := 3) (e := ⟨3, .phase⟩) rfl (by simp) rfl rfl hnot
                  have hl5 : listed.getD 5 false = false := hcl.not (j := 5) (i := 3) (e := ⟨3, .data⟩) rfl (by simp) rfl rfl hnot
                  have hl6 : listed.getD 6 false = false := hcl.not (j := 6) (i := 5) (e := ⟨5, .data⟩) rfl (by simp) rfl rfl hl5
                  have hl20 : listed.getD 20 false = false := hcl.not (j := 20) (i := 6) (e := ⟨6, .data⟩) rfl (by simp) rfl rfl hl6
                  have hl21 : listed.getD 21 false = false := hcl.not (j := 21) (i := 20) (e := ⟨20, .data⟩) rfl (by simp) rfl rfl hl20
                  have hl22 : listed.getD 22 false = false := hcl.not (j := 22) (i := 21) (e := ⟨21, .data⟩) rfl (by simp) rfl rfl hl21
                  have g43 : act.tmps[43]?.getD undef = .pointer (some ⟨w.heap.size, 0, none⟩) := hI.has 2 43 rfl (hall ⟨2, .data⟩ (by simp) rfl)
                  have hB := hC.low hl22
                  have hc := ((L2.out.below (below_of HF.out.below HF.out.below.size hB)).2 0 _ rfl).1
                  have hC2 := hC.same (k := 3) hI.len (by decide) (by decide) (by decide)
                  clear hI hall hnot hcl hC h24 hB hl5 hl6 hl20 hl21 hl22
                  refine .inl ⟨wanted_none rfl, ?_⟩
                  unfold Oper.wp
                  go_simp
                  all_goals first | exact ⟨_, rfl, fun _ _ _ h => h, rfl, hC2⟩ | exact ⟨_, rfl, rfl, hC2⟩ | exact ⟨rfl, hC2⟩ | exact hC2 | exact ⟨_, rfl, hC2⟩ | exact ⟨fun _ _ _ h => h, rfl, hC2⟩
                · simp at hq; subst hq
                  have h24 : listed.getD 24 false = false := hcl.not (j := 24) (i := 4) (e := ⟨4, .phase⟩) rfl (by simp) rfl rfl hnot
                  have g9 : act.tmps[9]?.getD undef = .int .i64 k := hI.kept 9 (by kernel_rfl)
                  have hC2 := hC.same (k := 4) hI.len (by decide) (by decide) (by decide)
                  clear hI hall hnot hcl hC h24
                  refine .inl ⟨wanted_none rfl, ?_⟩
                  unfold Oper.wp
                  go_simp
                  all_goals first | exact ⟨_, rfl, fun _ _ _ h => h, rfl, hC2⟩ | exact ⟨_, rfl, rfl, hC2⟩ | exact ⟨rfl, hC2⟩ | exact hC2 | exact ⟨_, rfl, hC2⟩ | exact ⟨fun _ _ _ h => h, rfl, hC2⟩
                · simp at hq; subst hq
                  have h24 : listed.getD 24 false = false := hcl.not (j := 24) (i := 5) (e := ⟨5, .phase⟩) rfl (by simp) rfl rfl hnot
                  have g44 : act.tmps[44]?.getD undef = .slice (some ⟨ba, oa, none⟩) a.length ca := hI.has 3 44 rfl (hall ⟨3, .data⟩ (by simp) rfl)
                  have g45 : act.tmps[45]?.getD undef = .int .i64 k := hI.has 4 45 rfl (hall ⟨4, .data⟩ (by simp) rfl)
                  have hC2 := hC.same (k := 5) hI.len (by decide) (by decide) (by decide)
                  clear hI hall hnot hcl hC h24
                  refine .inl ⟨wanted_none rfl, ?_⟩
                  unfold Oper.wp
                  go_simp
                  all_goals first | exact ⟨_, rfl, fun _ _ _ h => h, rfl, hC2⟩ | exact ⟨_, rfl, rfl, hC2⟩ | exact ⟨rfl, hC2⟩ | exact hC2 | exact ⟨_, rfl, hC2⟩ | exact ⟨fun _ _ _ h => h, rfl, hC2⟩
                · simp at hq; subst hq
                  have h24 : listed.getD 24 false = false := hcl.not (j := 24) (i := 6) (e := ⟨6, .phase⟩) rfl (by simp) rfl rfl hnot
                  have hl20 : listed.getD 20 false = false := hcl.not (j := 20) (i := 6) (e := ⟨6, .data⟩) rfl (by simp) rfl rfl hnot
                  have hl21 : listed.getD 21 false = false := hcl.not (j := 21) (i := 20) (e := ⟨20, .data⟩) rfl (by simp) rfl rfl hl20
                  have hl22 : listed.getD 22 false = false := hcl.not (j := 22) (i := 21) (e := ⟨21, .data⟩) rfl (by simp) rfl rfl hl21
                  have g46 : act.tmps[46]?.getD undef = .pointer (some ⟨ba, oa + k, none⟩) := hI.has 5 46 rfl (hall ⟨5, .data⟩ (by simp) rfl)
                  have hB := hC.low hl22
                  have hc := HCA.out _ (below_of HF.out.below HF.out.below.size hB)
                  have hC2 := hC.same (k := 6) hI.len (by decide) (by decide) (by decide)
                  clear hI hall hnot hcl hC h24 hB hl20 hl21 hl22
                  refine .inl ⟨wanted_none rfl, ?_⟩
                  unfold Oper.wp
                  go_simp
                  all_goals first | exact ⟨_, rfl, fun _ _ _ h => h, rfl, hC2⟩ | exact ⟨_, rfl, rfl, hC2⟩ | exact ⟨rfl, hC2⟩ | exact hC2 | exact ⟨_, rfl, hC2⟩ | exact ⟨fun _ _ _ h => h, rfl, hC2⟩
                · simp at hq; subst hq
                  have h24 : listed.getD 24 false = false := hcl.not (j := 24) (i := 7) (e := ⟨7, .phase⟩) rfl (by simp) rfl rfl hnot
                  have g2 : act.tmps[2]?.getD undef = .float .f32 u := hI.kept 2 (by kernel_rfl)
                  have hC2 := hC.same (k := 7) hI.len (by decide) (by decide) (by decide)
                  clear hI hall hnot hcl hC h24
                  refine .inl ⟨wanted_none rfl, ?_⟩
                  unfold Oper.wp
                  go_simp
                  all_goals first | exact ⟨_, rfl, fun _ _ _ h => h, rfl, hC2⟩ | exact ⟨_, rfl, rfl, hC2⟩ | exact ⟨rfl, hC2⟩ | exact hC2 | exact ⟨_, rfl, hC2⟩ | exact ⟨fun _ _ _ h => h, rfl, hC2⟩
                · simp at hq; subst hq
                  have h24 : listed.getD 24 false = false := hcl.not (j := 24) (i := 8) (e := ⟨8, .phase⟩) rfl (by simp) rfl rfl hnot
                  have g4 : act.tmps[4]?.getD undef = .pointer (some ⟨(w.heap.size + 1), 0, none⟩) := hI.kept 4 (by kernel_rfl)
                  have hC2 := hC.same (k := 8) hI.len (by decide) (by decide) (by decide)
                  clear hI hall hnot hcl hC h24
                  refine .inl ⟨wanted_none rfl, ?_⟩
                  unfold Oper.wp
                  go_simp
                  all_goals first | exact ⟨_, rfl, fun _ _ _ h => h, rfl, hC2⟩ | exact ⟨_, rfl, rfl, hC2⟩ | exact ⟨rfl, hC2⟩ | exact hC2 | exact ⟨_, rfl, hC2⟩ | exact ⟨fun _ _ _ h => h, rfl, hC2⟩
                · simp at hq; subst hq
                  have h24 : listed.getD 24 false = false := hcl.not (j := 24) (i := 9) (e := ⟨9, .phase⟩) rfl (by simp) rfl rfl hnot
                  have hl11 : listed.getD 11 false = false := hcl.not (j := 11) (i := 9) (e := ⟨9, .data⟩) rfl (by simp) rfl rfl hnot
                  have hl12 : listed.getD 12 false = false := hcl.not (j := 12) (i := 11) (e := ⟨11, .data⟩) rfl (by simp) rfl rfl hl11
                  have hl18 : listed.getD 18 false = false := hcl.not (j := 18) (i := 12) (e := ⟨12, .data⟩) rfl (by simp) rfl rfl hl12
                  have hl19 : listed.getD 19 false = false := hcl.not (j := 19) (i := 18) (e := ⟨18, .data⟩) rfl (by simp) rfl rfl hl18
                  have hl20 : listed.getD 20 false = false := hcl.not (j := 20) (i := 19) (e := ⟨19, .data⟩) rfl (by simp) rfl rfl hl19
                  have hl21 : listed.getD 21 false = false := hcl.not (j := 21) (i := 20) (e := ⟨20, .data⟩) rfl (by simp) rfl rfl hl20
                  have hl22 : listed.getD 22 false = false := hcl.not (j := 22) (i := 21) (e := ⟨21, .data⟩) rfl (by simp) rfl rfl hl21
                  have g49 : act.tmps[49]?.getD undef = .pointer (some ⟨(w.heap.size + 1), 0, none⟩) := hI.has 8 49 rfl (hall ⟨8, .data⟩ (by simp) rfl)
                  have hB := hC.low hl22
                  have hc := ((M2.out.below (below_of HF.out.below HF.out.below.size hB)).2 0 _ rfl).1
                  have hC2 := hC.same (k := 9) hI.len (by decide) (by decide) (by decide)
                  clear hI hall hnot hcl hC h24 hB hl11 hl12 hl18 hl19 hl20 hl21 hl22
                  refine .inl ⟨wanted_none rfl, ?_⟩
                  unfold Oper.wp
                  go_simp
                  all_goals first | exact ⟨_, rfl, fun _ _ _ h => h, rfl, hC2⟩ | exact ⟨_, rfl, rfl, hC2⟩ | exact ⟨rfl, hC2⟩ | exact hC2 | exact ⟨_, rfl, hC2⟩ | exact ⟨fun _ _ _ h => h, rfl, hC2⟩
                · simp at hq; subst hq
                  have h24 : listed.getD 24 false = false := hcl.not (j := 24) (i := 10) (e := ⟨10, .phase⟩) rfl (by simp) rfl rfl hnot
                  have g9 : act.tmps[9]?.getD undef = .int .i64 k := hI.kept 9 (by kernel_rfl)
                  have hC2 := hC.same (k := 10) hI.len (by decide) (by decide) (by decide)
                  clear hI hall hnot hcl hC h24
                  refine .inl ⟨wanted_none rfl, ?_⟩
                  unfold Oper.wp
                  go_simp
                  all_goals first | exact ⟨_, rfl, fun _ _ _ h => h, rfl, hC2⟩ | exact ⟨_, rfl, rfl, hC2⟩ | exact ⟨rfl, hC2⟩ | exact hC2 | exact ⟨_, rfl, hC2⟩ | exact ⟨fun _ _ _ h => h, rfl, hC2⟩
                · simp at hq; subst hq
                  have h24 : listed.getD 24 false = false := hcl.not (j := 24) (i := 11) (e := ⟨11, .phase⟩) rfl (by simp) rfl rfl hnot
                  have g50 : act.tmps[50]?.getD undef = .slice (some ⟨bb, ob, none⟩) b.length cb := hI.has 9 50 rfl (hall ⟨9, .data⟩ (by simp) rfl)
                  have g51 : act.tmps[51]?.getD undef = .int .i64 k := hI.has 10 51 rfl (hall ⟨10, .data⟩ (by simp) rfl)
                  have hC2 := hC.same (k := 11) hI.len (by decide) (by decide) (by decide)
                  clear hI hall hnot hcl hC h24
                  refine .inl ⟨wanted_none rfl, ?_⟩
                  unfold Oper.wp
                  go_simp
                  all_goals first | exact ⟨_, rfl, fun _ _ _ h => h, rfl, hC2⟩ | exact ⟨_, rfl, rfl, hC2⟩ | exact ⟨rfl, hC2⟩ | exact hC2 | exact ⟨_, rfl, hC2⟩ | exact ⟨fun _ _ _ h => h, rfl, hC2⟩
                · simp at hq; subst hq
                  have h24 : listed.getD 24 false = false := hcl.not (j := 24) (i := 12) (e := ⟨12, .phase⟩) rfl (by simp) rfl rfl hnot
                  have hl18 : listed.getD 18 false = false := hcl.not (j := 18) (i := 12) (e := ⟨12, .data⟩) rfl (by simp) rfl rfl hnot
                  have hl19 : listed.getD 19 false = false := hcl.not (j := 19) (i := 18) (e := ⟨18, .data⟩) rfl (by simp) rfl rfl hl18
                  have hl20 : listed.getD 20 false = false := hcl.not (j := 20) (i := 19) (e := ⟨19, .data⟩) rfl (by simp) rfl rfl hl19
                  have hl21 : listed.getD 21 false = false := hcl.not (j := 21) (i := 20) (e := ⟨20, .data⟩) rfl (by simp) rfl rfl hl20
                  have hl22 : listed.getD 22 false = false := hcl.not (j := 22) (i := 21) (e := ⟨21, .data⟩) rfl (by simp) rfl rfl hl21
                  have g52 : act.tmps[52]?.getD undef = .pointer (some ⟨bb, ob + k, none⟩) := hI.has 11 52 rfl (hall ⟨11, .data⟩ (by simp) rfl)
                  have hB := hC.low hl22
                  have hc := HCB.out _ (below_of HF.out.below HF.out.below.size hB)
                  have hC2 := hC.same (k := 12) hI.len (by decide) (by decide) (by decide)
                  clear hI hall hnot hcl hC h24 hB hl18 hl19 hl20 hl21 hl22
                  refine .inl ⟨wanted_none rfl, ?_⟩
                  unfold Oper.wp
                  go_simp
                  all_goals first | exact ⟨_, rfl, fun _ _ _ h => h, rfl, hC2⟩ | exact ⟨_, rfl, rfl, hC2⟩ | exact ⟨rfl, hC2⟩ | exact hC2 | exact ⟨_, rfl, hC2⟩ | exact ⟨fun _ _ _ h => h, rfl, hC2⟩
                · simp at hq; subst hq
                  have h24 : listed.getD 24 false = false := hcl.not (j := 24) (i := 13) (e := ⟨13, .phase⟩) rfl (by simp) rfl rfl hnot
                  have g3 : act.tmps[3]?.getD undef = .pointer (some ⟨w.heap.size, 0, none⟩) := hI.kept 3 (by kernel_rfl)
                  have hC2 := hC.same (k := 13) hI.len (by decide) (by decide) (by decide)
                  clear hI hall hnot hcl hC h24
                  refine .inl ⟨wanted_none rfl, ?_⟩
                  unfold Oper.wp
                  go_simp
                  all_goals first | exact ⟨_, rfl, fun _ _ _ h => h, rfl, hC2⟩ | exact ⟨_, rfl, rfl, hC2⟩ | exact ⟨rfl, hC2⟩ | exact hC2 | exact ⟨_, rfl, hC2⟩ | exact ⟨fun _ _ _ h => h, rfl, hC2⟩
                · simp at hq; subst hq
                  have h24 : listed.getD 24 false = false := hcl.not (j := 24) (i := 14) (e := ⟨14, .phase⟩) rfl (by simp) rfl rfl hnot
                  have hl16 : listed.getD 16 false = false := hcl.not (j := 16) (i := 14) (e := ⟨14, .data⟩) rfl (by simp) rfl rfl hnot
                  have hl17 : listed.getD 17 false = false := hcl.not (j := 17) (i := 16) (e := ⟨16, .data⟩) rfl (by simp) rfl rfl hl16
                  have hl18 : listed.getD 18 false = false := hcl.not (j := 18) (i := 17) (e := ⟨17, .data⟩) rfl (by simp) rfl rfl hl17
                  have hl19 : listed.getD 19 false = false := hcl.not (j := 19) (i := 18) (e := ⟨18, .data⟩) rfl (by simp) rfl rfl hl18
                  have hl20 : listed.getD 20 false = false := hcl.not (j := 20) (i := 19) (e := ⟨19, .data⟩) rfl (by simp) rfl rfl hl19
                  have hl21 : listed.getD 21 false = false := hcl.not (j := 21) (i := 20) (e := ⟨20, .data⟩) rfl (by simp) rfl rfl hl20
                  have hl22 : listed.getD 22 false = false := hcl.not (j := 22) (i := 21) (e := ⟨21, .data⟩) rfl (by simp) rfl rfl hl21
                  have g54 : act.tmps[54]?.getD undef = .pointer (some ⟨w.heap.size, 0, none⟩) := hI.has 13 54 rfl (hall ⟨13, .data⟩ (by simp) rfl)
                  have hB := hC.low hl22
                  have hc := ((L2.out.below (below_of HF.out.below HF.out.below.size hB)).2 0 _ rfl).1
                  have hC2 := hC.same (k := 14) hI.len (by decide) (by decide) (by decide)
                  clear hI hall hnot hcl hC h24 hB hl16 hl17 hl18 hl19 hl20 hl21 hl22
                  refine .inl ⟨wanted_none rfl, ?_⟩
                  unfold Oper.wp
                  go_simp
                  all_goals first | exact ⟨_, rfl, fun _ _ _ h => h, rfl, hC2⟩ | exact ⟨_, rfl, rfl, hC2⟩ | exact ⟨rfl, hC2⟩ | exact hC2 | exact ⟨_, rfl, hC2⟩ | exact ⟨fun _ _ _ h => h, rfl, hC2⟩
                · simp at hq; subst hq
                  have h24 : listed.getD 24 false = false := hcl.not (j := 24) (i := 15) (e := ⟨15, .phase⟩) rfl (by simp) rfl rfl hnot
                  have g9 : act.tmps[9]?.getD undef = .int .i64 k := hI.kept 9 (by kernel_rfl)
                  have hC2 := hC.same (k := 15) hI.len (by decide) (by decide) (by decide)
                  clear hI hall hnot hcl hC h24
                  refine .inl ⟨wanted_none rfl, ?_⟩
                  unfold Oper.wp
                  go_simp
                  all_goals first | exact ⟨_, rfl, fun _ _ _ h => h, rfl, hC2⟩ | exact ⟨_, rfl, rfl, hC2⟩ | exact ⟨rfl, hC2⟩ | exact hC2 | exact ⟨_, rfl, hC2⟩ | exact ⟨fun _ _ _ h => h, rfl, hC2⟩
                · simp at hq; subst hq
                  have h24 : listed.getD 24 false = false := hcl.not (j := 24) (i := 16) (e := ⟨16, .phase⟩) rfl (by simp) rfl rfl hnot
                  have g55 : act.tmps[55]?.getD undef = .slice (some ⟨ba, oa, none⟩) a.length ca := hI.has 14 55 rfl (hall ⟨14, .data⟩ (by simp) rfl)
                  have g56 : act.tmps[56]?.getD undef = .int .i64 k := hI.has 15 56 rfl (hall ⟨15, .data⟩ (by simp) rfl)
                  have hC2 := hC.same (k := 16) hI.len (by decide) (by decide) (by decide)
                  clear hI hall hnot hcl hC h24
                  refine .inl ⟨wanted_none rfl, ?_⟩
                  unfold Oper.wp
                  go_simp
                  all_goals first | exact ⟨_, rfl, fun _ _ _ h => h, rfl, hC2⟩ | exact ⟨_, rfl, rfl, hC2⟩ | exact ⟨rfl, hC2⟩ | exact hC2 | exact ⟨_, rfl, hC2⟩ | exact ⟨fun _ _ _ h => h, rfl, hC2⟩
                · simp at hq; subst hq
                  have h24 : listed.getD 24 false = false := hcl.not (j := 24) (i := 17) (e := ⟨17, .phase⟩) rfl (by simp) rfl rfl hnot
                  have hl18 : listed.getD 18 false = false := hcl.not (j := 18) (i := 17) (e := ⟨17, .data⟩) rfl (by simp) rfl rfl hnot
                  have hl19 : listed.getD 19 false = false := hcl.not (j := 19) (i := 18) (e := ⟨18, .data⟩) rfl (by simp) rfl rfl hl18
                  have hl20 : listed.getD 20 false = false := hcl.not (j := 20) (i := 19) (e := ⟨19, .data⟩) rfl (by simp) rfl rfl hl19
                  have hl21 : listed.getD 21 false = false := hcl.not (j := 21) (i := 20) (e := ⟨20, .data⟩) rfl (by simp) rfl rfl hl20
                  have hl22 : listed.getD 22 false = false := hcl.not (j := 22) (i := 21) (e := ⟨21, .data⟩) rfl (by simp) rfl rfl hl21
                  have g57 : act.tmps[57]?.getD undef = .pointer (some ⟨ba, oa + k, none⟩) := hI.has 16 57 rfl (hall ⟨16, .data⟩ (by simp) rfl)
                  have hB := hC.low hl22
                  have hc := HCA.out _ (below_of HF.out.below HF.out.below.size hB)
                  have hC2 := hC.same (k := 17) hI.len (by decide) (by decide) (by decide)
                  clear hI hall hnot hcl hC h24 hB hl18 hl19 hl20 hl21 hl22
                  refine .inl ⟨wanted_none rfl, ?_⟩
                  unfold Oper.wp
                  go_simp
                  all_goals first | exact ⟨_, rfl, fun _ _ _ h => h, rfl, hC2⟩ | exact ⟨_, rfl, rfl, hC2⟩ | exact ⟨rfl, hC2⟩ | exact hC2 | exact ⟨_, rfl, hC2⟩ | exact ⟨fun _ _ _ h => h, rfl, hC2⟩
                · simp at hq; subst hq
                  have h24 : listed.getD 24 false = false := hcl.not (j := 24) (i := 18) (e := ⟨18, .phase⟩) rfl (by simp) rfl rfl hnot
                  have hl19 : listed.getD 19 false = false := hcl.not (j := 19) (i := 18) (e := ⟨18, .data⟩) rfl (by simp) rfl rfl hnot
                  have hl20 : listed.getD 20 false = false := hcl.not (j := 20) (i := 19) (e := ⟨19, .data⟩) rfl (by simp) rfl rfl hl19
                  have hl21 : listed.getD 21 false = false := hcl.not (j := 21) (i := 20) (e := ⟨20, .data⟩) rfl (by simp) rfl rfl hl20
                  have hl22 : listed.getD 22 false = false := hcl.not (j := 22) (i := 21) (e := ⟨21, .data⟩) rfl (by simp) rfl rfl hl21
                  have g53 : act.tmps[53]?.getD undef = .float .f32 pb := hI.has 12 53 rfl (hall ⟨12, .data⟩ (by simp) rfl)
                  have g58 : act.tmps[58]?.getD undef = .float .f32 pa := hI.has 17 58 rfl (hall ⟨17, .data⟩ (by simp) rfl)
                  have hB := hC.low hl22
                  have hC2 := fun w4 (b4 : Below wq.heap.size wq w4) => hC.step (k := 18) hI.len (by decide) (by decide) (by decide) h24 hBo b4 hB.size
                  clear hI hall hnot hcl hC h24 hB
                  refine .inl ⟨wanted_none rfl, ?_⟩
                  unfold Oper.wp
                  go_simp
                  refine ⟨_, rfl, fun j u hj hV => ?_, ⟨_, rfl, canonF rfl rfl⟩, hC2 _ (below_draws (Below.refl _ _) _)⟩
                  rcases j with _ | _ | _ | _ | _ | _ | _ | _ | _ | _ | _ | _ | _ | _ | _ | _ | _ | _ | _ | _ | _ | _ | _ | _ | _ | j
                  · exact hV
                  · exact hV
                  · exact hV
                  · exact hV
                  · exact hV
                  · exact hV
                  · exact hV
                  · exact hV
                  · exact hV
                  · exact hV
                  · exact hV
                  · exact hV
                  · exact hV
                  · exact hV
                  · exact hV
                  · exact hV
                  · exact hV
                  · exact hV
                  · exact hV
                  · exact hV
                  · exact hV
                  · first | exact Bool.noConfusion (hl21.symm.trans hj) | (rw [Array.getD_eq_getD_getElem?] at hl21; exact Bool.noConfusion (hl21.symm.trans hj))
                  · first | exact Bool.noConfusion (hl22.symm.trans hj) | (rw [Array.getD_eq_getD_getElem?] at hl22; exact Bool.noConfusion (hl22.symm.trans hj))
                  · exact hV
                  · exact hV
                  · exact hV
                · simp at hq; subst hq
                  have h24 : listed.getD 24 false = false := hcl.not (j := 24) (i := 19) (e := ⟨19, .phase⟩) rfl (by simp) rfl rfl hnot
                  have hl20 : listed.getD 20 false = false := hcl.not (j := 20) (i := 19) (e := ⟨19, .data⟩) rfl (by simp) rfl rfl hnot
                  have hl21 : listed.getD 21 false = false := hcl.not (j := 21) (i := 20) (e := ⟨20, .data⟩) rfl (by simp) rfl rfl hl20
                  have hl22 : listed.getD 22 false = false := hcl.not (j := 22) (i := 21) (e := ⟨21, .data⟩) rfl (by simp) rfl rfl hl21
                  have g48 : act.tmps[48]?.getD undef = .float .f32 u := hI.has 7 48 rfl (hall ⟨7, .data⟩ (by simp) rfl)
                  obtain ⟨r18, g59, h18⟩ := hI.has 18 59 rfl (hall ⟨18, .data⟩ (by simp) rfl)
                  have hB := hC.low hl22
                  have hC2 := fun w4 (b4 : Below wq.heap.size wq w4) => hC.step (k := 19) hI.len (by decide) (by decide) (by decide) h24 hBo b4 hB.size
                  clear hI hall hnot hcl hC h24 hB
                  refine .inl ⟨wanted_none rfl, ?_⟩
                  unfold Oper.wp
                  go_simp
                  refine ⟨_, rfl, fun j u hj hV => ?_, ⟨_, rfl, canonF rfl h18⟩, hC2 _ (below_draws (Below.refl _ _) _)⟩
                  rcases j with _ | _ | _ | _ | _ | _ | _ | _ | _ | _ | _ | _ | _ | _ | _ | _ | _ | _ | _ | _ | _ | _ | _ | _ | _ | j
                  · exact hV
                  · exact hV
                  · exact hV
                  · exact hV
                  · exact hV
                  · exact hV
                  · exact hV
                  · exact hV
                  · exact hV
                  · exact hV
                  · exact hV
                  · exact hV
                  · exact hV
                  · exact hV
                  · exact hV
                  · exact hV
                  · exact hV
                  · exact hV
                  · exact hV
                  · exact hV
                  · exact hV
                  · first | exact Bool.noConfusion (hl21.symm.trans hj) | (rw [Array.getD_eq_getD_getElem?] at hl21; exact Bool.noConfusion (hl21.symm.trans hj))
                  · first | exact Bool.noConfusion (hl22.symm.trans hj) | (rw [Array.getD_eq_getD_getElem?] at hl22; exact Bool.noConfusion (hl22.symm.trans hj))
                  · exact hV
                  · exact hV
                  · exact hV
                · simp at hq; subst hq
                  have h24 : listed.getD 24 false = false := hcl.not (j := 24) (i := 20) (e := ⟨20, .phase⟩) rfl (by simp) rfl rfl hnot
                  have hl21 : listed.getD 21 false = false := hcl.not (j := 21) (i := 20) (e := ⟨20, .data⟩) rfl (by simp) rfl rfl hnot
                  have hl22 : listed.getD 22 false = false := hcl.not (j := 22) (i := 21) (e := ⟨21, .data⟩) rfl (by simp) rfl rfl hl21
                  have g47 : act.tmps[47]?.getD undef = .float .f32 pa := hI.has 6 47 rfl (hall ⟨6, .data⟩ (by simp) rfl)
                  obtain ⟨r19, g60, h19⟩ := hI.has 19 60 rfl (hall ⟨19, .data⟩ (by simp) rfl)
                  have hB := hC.low hl22
                  have hC2 := fun w4 (b4 : Below wq.heap.size wq w4) => hC.step (k := 20) hI.len (by decide) (by decide) (by decide) h24 hBo b4 hB.size
                  clear hI hall hnot hcl hC h24 hB
                  refine .inl ⟨wanted_none rfl, ?_⟩
                  unfold Oper.wp
                  go_simp
                  refine ⟨_, rfl, fun j u hj hV => ?_, ⟨_, rfl, canonF rfl h19⟩, hC2 _ (below_draws (Below.refl _ _) _)⟩
                  rcases j with _ | _ | _ | _ | _ | _ | _ | _ | _ | _ | _ | _ | _ | _ | _ | _ | _ | _ | _ | _ | _ | _ | _ | _ | _ | j
                  · exact hV
                  · exact hV
                  · exact hV
                  · exact hV
                  · exact hV
                  · exact hV
                  · exact hV
                  · exact hV
                  · exact hV
                  · exact hV
                  · exact hV
                  · exact hV
                  · exact hV
                  · exact hV
                  · exact hV
                  · exact hV
                  · exact hV
                  · exact hV
                  · exact hV
                  · exact hV
                  · exact hV
                  · first | exact Bool.noConfusion (hl21.symm.trans hj) | (rw [Array.getD_eq_getD_getElem?] at hl21; exact Bool.noConfusion (hl21.symm.trans hj))
                  · first | exact Bool.noConfusion (hl22.symm.trans hj) | (rw [Array.getD_eq_getD_getElem?] at hl22; exact Bool.noConfusion (hl22.symm.trans hj))
                  · exact hV
                  · exact hV
                  · exact hV
                · simp at hq; subst hq
                  have h24 : listed.getD 24 false = false := hcl.not (j := 24) (i := 21) (e := ⟨21, .phase⟩) rfl (by simp) rfl rfl hnot
                  have hl22 : listed.getD 22 false = false := hcl.not (j := 22) (i := 21) (e := ⟨21, .data⟩) rfl (by simp) rfl rfl hnot
                  obtain ⟨r20, g61, h20⟩ := hI.has 20 61 rfl (hall ⟨20, .data⟩ (by simp) rfl)
                  have hB := hC.low hl22
                  have hC2 := hC.step (k := 21) hI.len (by decide) (by decide) (by decide) h24 hBo ((Below.refl _ _).alloc (Nat.le_refl _) (.cells #[.float .f32 r20] 25)) hB.size
                  have hnot2 : listed.getD 21 false = false := hnot
                  clear hI hall hnot hcl hC h24
                  refine .inl ⟨wanted_none rfl, ?_⟩
                  unfold Oper.wp
                  go_simp
                  first | refine ⟨_, rfl, fun j u hj hV => ?_, SVa.made h20 hB, hC2⟩ | refine ⟨_, rfl, fun j u hj hV => ?_, SVa.made h20 hB⟩
                  rcases j with _ | _ | _ | _ | _ | _ | _ | _ | _ | _ | _ | _ | _ | _ | _ | _ | _ | _ | _ | _ | _ | _ | _ | _ | _ | j
                  · exact hV
                  · exact hV
                  · exact hV
                  · exact hV
                  · exact hV
                  · exact hV
                  · exact hV
                  · exact hV
                  · exact hV
                  · exact hV
                  · exact hV
                  · exact hV
                  · exact hV
                  · exact hV
                  · exact hV
                  · exact hV
                  · exact hV
                  · exact hV
                  · exact hV
                  · exact hV
                  · exact hV
                  · first | exact Bool.noConfusion (hnot2.symm.trans hj) | (rw [Array.getD_eq_getD_getElem?] at hnot2; exact Bool.noConfusion (hnot2.symm.trans hj))
                  · first | exact Bool.noConfusion (hl22.symm.trans hj) | (rw [Array.getD_eq_getD_getElem?] at hl22; exact Bool.noConfusion (hl22.symm.trans hj))
                  · exact hV
                  · exact hV
                  · exact hV
                · simp at hq; subst hq
                  have h24 : listed.getD 24 false = false := hcl.not (j := 24) (i := 22) (e := ⟨22, .phase⟩) rfl (by simp) rfl rfl hnot
                  have g42 : act.tmps[42]?.getD undef = .slice Ax xs.length cx := hI.has 1 42 rfl (hall ⟨1, .data⟩ (by simp) rfl)
                  obtain ⟨B7, r7, g62, h7a, h7b, h7c⟩ := hI.has 21 62 rfl (hall ⟨21, .data⟩ (by simp) rfl)
                  have hB := hC.low hnot
                  have hFq := HF.out.more hB
                  have hlen := hI.len
                  have hnot2 : listed.getD 22 false = false := hnot
                  clear hI hall hnot hcl
                  refine .inl ⟨wanted_none rfl, ?_⟩
                  refine wp_append_lies _ (.tmp 42) (.tmp 62) 22 rfl w2.heap.size 25 i0 (.float .f32 0) 1 4 Try.underlying22 HI.out HZ0.out HZ1.out HZ2.out rfl (by decide) (.slice Ax xs.length cx) xs.length (xs.map (Value.float .f32)) (by simp [Act.eval, g42]) hFq.gx ⟨B7, 0, none⟩ 1 1 [.float .f32 r7] (by simp [Act.eval, g62]) rfl ?c1 ?c2 (by decide) ?c3 ?c4 hFq.below.size wq.heap.size rfl (fun g cap w9 hown hgrow hat _ => ?_)
                  case c1 =>
                    intro j u hj
                    match j, hj with
                    | 0, hj => simp at hj; subst hj; exact (h7c.2 0 _ rfl).1
                    | j + 1, hj => simp at hj
                  case c2 => intro u hu; simp at hu; subst hu; rfl
                  case c3 => have := HLX.out; unfold maxLen; omega
                  case c4 => have := HLX.out; omega
                  have hF9 := FR.growX (m := 1) (zs := [r7]) hFq rfl (by simpa using hown) hgrow (by rcases hat with e | e; exact .inl e.symm; exact .inr (by rw [e]; rfl))
                  have hK9 := hFq.blk.keptR hgrow hFq.nx
                  have hC2 := CR.app (ap := 22) (st := 24) hlen (by decide) (by decide) h24 (hK9.2 0 _ rfl).1 hC
                  refine ⟨_, rfl, fun j u hj hV => ?_, ⟨g, cap, rfl, fun _ => ⟨r7, h7a, hK9, hF9⟩⟩, hC2⟩
                  rcases j with _ | _ | _ | _ | _ | _ | _ | _ | _ | _ | _ | _ | _ | _ | _ | _ | _ | _ | _ | _ | _ | _ | _ | _ | _ | j
                  · exact hV
                  · exact hV
                  · exact hV
                  · exact hV
                  · exact hV
                  · exact hV
                  · exact hV
                  · exact hV
                  · exact hV
                  · exact hV
                  · exact hV
                  · exact hV
                  · exact hV
                  · exact hV
                  · exact hV
                  · exact hV
                  · exact hV
                  · exact hV
                  · exact hV
                  · exact hV
                  · exact hV
                  · exact SVa.grown hV hgrow (fun k hk => (HF.out.gx.ltR hk).2)
                  · first | exact Bool.noConfusion (hnot2.symm.trans hj) | (rw [Array.getD_eq_getD_getElem?] at hnot2; exact Bool.noConfusion (hnot2.symm.trans hj))
                  · exact hV
                  · exact hV
                  · exact hV
                · simp at hq; subst hq
                  have h24 : listed.getD 24 false = false := hcl.not (j := 24) (i := 23) (e := ⟨23, .data⟩) rfl (by simp) rfl rfl hnot
                  have g8 : act.tmps[8]?.getD undef = .pointer (some ⟨(w2.heap.size + 2), 0, none⟩) := hI.kept 8 (by kernel_rfl)
                  have hC2 := hC.same (k := 23) hI.len (by decide) (by decide) (by decide)
                  clear hI hall hnot hcl hC h24
                  refine .inl ⟨wanted_none rfl, ?_⟩
                  unfold Oper.wp
                  go_simp
                  all_goals first | exact ⟨_, rfl, fun _ _ _ h => h, rfl, hC2⟩ | exact ⟨_, rfl, rfl, hC2⟩ | exact ⟨rfl, hC2⟩ | exact hC2 | exact ⟨_, rfl, hC2⟩ | exact ⟨fun _ _ _ h => h, rfl, hC2⟩
                · simp at hq; subst hq
                  have g64 : act.tmps[64]?.getD undef = .pointer (some ⟨(w2.heap.size + 2), 0, none⟩) := hI.has 23 64 rfl (hall ⟨23, .data⟩ (by simp) rfl)
                  obtain ⟨gq, cq, g63, hs⟩ := hI.has 22 63 rfl (hall ⟨22, .data⟩ (by simp) rfl)
                  have h22 := hall ⟨22, .data⟩ (by simp) rfl
                  have hcell := hC.cell hnot
                  obtain ⟨rq, hrq, hK, hF⟩ := hs hcell
                  have k0 := (hK.2 0 _ rfl).1
                  have k1 := (hK.2 0 _ rfl).2
                  have hfin : FinX w2 (w2.heap.size + 2) (.slice Ay ys.length cy) xs ys (mxV pa pb u) _ := ⟨rq, gq, cq, hrq, by rw [g63] at hF; exact hF⟩
                  have hC2 := CR.done (ap := 22) (st := 24) (v := .slice Ax xs.length cx) (W := wr) (p := ⟨(w2.heap.size + 2), 0, none⟩) hI.len (by decide) (by decide) h22 hfin
                  clear hI hall hnot hcl hC
                  refine .inl ⟨wanted_none rfl, ?_⟩
                  unfold Oper.wp
                  go_simp
                  first | refine ⟨_, rfl, fun j u hj hV => ?_, trivial, hC2⟩ | refine ⟨fun j u hj hV => ?_, trivial, hC2⟩ | refine ⟨_, rfl, fun j u hj hV => ?_, hC2⟩ | refine ⟨fun j u hj hV => ?_, hC2⟩ | intro j u hj hV
                  rcases j with _ | _ | _ | _ | _ | _ | _ | _ | _ | _ | _ | _ | _ | _ | _ | _ | _ | _ | _ | _ | _ | _ | _ | _ | _ | j
                  · exact hV
                  · exact hV
                  · exact hV
                  · exact hV
                  · exact hV
                  · exact hV
                  · exact hV
                  · exact hV
                  · exact hV
                  · exact hV
                  · exact hV
                  · exact hV
                  · exact hV
                  · exact hV
                  · exact hV
                  · exact hV
                  · exact hV
                  · exact hV
                  · exact hV
                  · exact hV
                  · exact hV
                  · exact SVa.setC hV hBo _
                  · exact SVx.old hV rfl rfl ((hK.set (i := 0) (by simp) _).2 0 _ rfl).1
                  · exact hV
                  · exact hV
                  · exact hV
                · simp at hq
              case hend =>
                intro listed act w9 hI hall
                obtain ⟨r, g, cap, hr, hF⟩ := hI.cls.fin (hall 24 (by decide))
                have g0 := hI.kept 0 (by kernel_rfl)
                conv at g0 => rhs; whnf
                have g1 := hI.kept 1 (by kernel_rfl)
                conv at g1 => rhs; whnf
                have g2 := hI.kept 2 (by kernel_rfl)
                conv at g2 => rhs; whnf
                have g3 := hI.kept 3 (by kernel_rfl)
                conv at g3 => rhs; whnf
                have g4 := hI.kept 4 (by kernel_rfl)
                conv at g4 => rhs; whnf
                have g5 : act.tmps[5]?.getD undef = undef := hI.kept 5 (by kernel_rfl)
                have g6 := hI.kept 6 (by kernel_rfl)
                conv at g6 => rhs; whnf
                have g7 := hI.kept 7 (by kernel_rfl)
                conv at g7 => rhs; whnf
                have g8 := hI.kept 8 (by kernel_rfl)
                conv at g8 => rhs; whnf
                have g10 := hI.kept 10 (by kernel_rfl)
                conv at g10 => rhs; whnf
                have g11 := hI.kept 11 (by kernel_rfl)
                conv at g11 => rhs; whnf
                have g12 := hI.kept 12 (by kernel_rfl)
                conv at g12 => rhs; whnf
                have g13 := hI.kept 13 (by kernel_rfl)
                conv at g13 => rhs; whnf
                have g14 := hI.kept 14 (by kernel_rfl)
                conv at g14 => rhs; whnf
                have g15 := hI.kept 15 (by kernel_rfl)
                conv at g15 => rhs; whnf
                have g16 := hI.kept 16 (by kernel_rfl)
                conv at g16 => rhs; whnf
                have g17 := hI.kept 17 (by kernel_rfl)
                conv at g17 => rhs; whnf
                have g18 := hI.kept 18 (by kernel_rfl)
                conv at g18 => rhs; whnf
                have g19 := hI.kept 19 (by kernel_rfl)
                conv at g19 => rhs; whnf
                have g20 := hI.kept 20 (by kernel_rfl)
                conv at g20 => rhs; whnf
                have g21 := hI.kept 21 (by kernel_rfl)
                conv at g21 => rhs; whnf
                have g22 := hI.kept 22 (by kernel_rfl)
                conv at g22 => rhs; whnf
                have g23 := hI.kept 23 (by kernel_rfl)
                conv at g23 => rhs; whnf
                have g24 := hI.kept 24 (by kernel_rfl)
                conv at g24 => rhs; whnf
                have g25 := hI.kept 25 (by kernel_rfl)
                conv at g25 => rhs; whnf
                have g26 := hI.kept 26 (by kernel_rfl)
                conv at g26 => rhs; whnf
                have g27 := hI.kept 27 (by kernel_rfl)
                conv at g27 => rhs; whnf
                have g28 := hI.kept 28 (by kernel_rfl)
                conv at g28 => rhs; whnf
                have g29 := hI.kept 29 (by kernel_rfl)
                conv at g29 => rhs; whnf
                have g30 : act.tmps[30]?.getD undef = undef := hI.kept 30 (by kernel_rfl)
                have g31 := hI.kept 31 (by kernel_rfl)
                conv at g31 => rhs; whnf
                have g32 := hI.kept 32 (by kernel_rfl)
                conv at g32 => rhs; whnf
                have g33 := hI.kept 33 (by kernel_rfl)
                conv at g33 => rhs; whnf
                have g89 : act.tmps[89]?.getD undef = undef := hI.kept 89 (by kernel_rfl)
                have g90 : act.tmps[90]?.getD undef = undef := hI.kept 90 (by kernel_rfl)
                have g91 : act.tmps[91]?.getD undef = undef := hI.kept 91 (by kernel_rfl)
                have g92 : act.tmps[92]?.getD undef = undef := hI.kept 92 (by kernel_rfl)
                have g9 := hI.kept 9 (by kernel_rfl)
                conv at g9 => rhs; whnf
                have hsz : act.tmps.size = 93 := hI.size.trans (by kernel_rfl)
                have hd := hI.defers
                clear hI hall
                obtain ⟨tt, dd⟩ := act
                simp only at g0 g1 g2 g3 g4 g5 g6 g7 g8 g9 g10 g11 g12 g13 g14 g15 g16 g17 g18 g19 g20 g21 g22 g23 g24 g25 g26 g27 g28 g29 g30 g31 g32 g33 g89 g90 g91 g92 hsz hd
                subst hd
                have hl : tt = #[tt[0]?.getD undef, tt[1]?.getD undef, tt[2]?.getD undef, tt[3]?.getD undef, tt[4]?.getD undef, tt[5]?.getD undef, tt[6]?.getD undef, tt[7]?.getD undef, tt[8]?.getD undef, tt[9]?.getD undef, tt[10]?.getD undef, tt[11]?.getD undef, tt[12]?.getD undef, tt[13]?.getD undef, tt[14]?.getD undef, tt[15]?.getD undef, tt[16]?.getD undef, tt[17]?.getD undef, tt[18]?.getD undef, tt[19]?.getD undef, tt[20]?.getD undef, tt[21]?.getD undef, tt[22]?.getD undef, tt[23]?.getD undef, tt[24]?.getD undef, tt[25]?.getD undef, tt[26]?.getD undef, tt[27]?.getD undef, tt[28]?.getD undef, tt[29]?.getD undef, tt[30]?.getD undef, tt[31]?.getD undef, tt[32]?.getD undef, tt[33]?.getD undef, tt[34]?.getD undef, tt[35]?.getD undef, tt[36]?.getD undef, tt[37]?.getD undef, tt[38]?.getD undef, tt[39]?.getD undef, tt[40]?.getD undef, tt[41]?.getD undef, tt[42]?.getD undef, tt[43]?.getD undef, tt[44]?.getD undef, tt[45]?.getD undef, tt[46]?.getD undef, tt[47]?.getD undef, tt[48]?.getD undef, tt[49]?.getD undef, tt[50]?.getD undef, tt[51]?.getD undef, tt[52]?.getD undef, tt[53]?.getD undef, tt[54]?.getD undef, tt[55]?.getD undef, tt[56]?.getD undef, tt[57]?.getD undef, tt[58]?.getD undef, tt[59]?.getD undef, tt[60]?.getD undef, tt[61]?.getD undef, tt[62]?.getD undef, tt[63]?.getD undef, tt[64]?.getD undef, tt[65]?.getD undef, tt[66]?.getD undef, tt[67]?.getD undef, tt[68]?.getD undef, tt[69]?.getD undef, tt[70]?.getD undef, tt[71]?.getD undef, tt[72]?.getD undef, tt[73]?.getD undef, tt[74]?.getD undef, tt[75]?.getD undef, tt[76]?.getD undef, tt[77]?.getD undef, tt[78]?.getD undef, tt[79]?.getD undef, tt[80]?.getD undef, tt[81]?.getD undef, tt[82]?.getD undef, tt[83]?.getD undef, tt[84]?.getD undef, tt[85]?.getD undef, tt[86]?.getD undef, tt[87]?.getD undef, tt[88]?.getD undef, tt[89]?.getD undef, tt[90]?.getD undef, tt[91]?.getD undef, tt[92]?.getD undef] := (arr_lit hsz).trans rfl
                rw [g0, g1, g2, g3, g4, g5, g6, g7, g8, g9, g10, g11, g12, g13, g14, g15, g16, g17, g18, g19, g20, g21, g22, g23, g24, g25, g26, g27, g28, g29, g30, g31, g32, g33, g89, g90, g91, g92] at hl
                clear g0 g1 g2 g3 g4 g5 g6 g7 g8 g9 g10 g11 g12 g13 g14 g15 g16 g17 g18 g19 g20 g21 g22 g23 g24 g25 g26 g27 g28 g29 g30 g31 g32 g33 g89 g90 g91 g92 hsz
                generalize tt[34]?.getD undef = y34 at hl
                generalize tt[35]?.getD undef = y35 at hl
                generalize tt[36]?.getD undef = y36 at hl
                generalize tt[37]?.getD undef = y37 at hl
                generalize tt[38]?.getD undef = y38 at hl
                generalize tt[39]?.getD undef = y39 at hl
                generalize tt[40]?.getD undef = y40 at hl
                generalize tt[41]?.getD undef = y41 at hl
                generalize tt[42]?.getD undef = y42 at hl
                generalize tt[43]?.getD undef = y43 at hl
                generalize tt[44]?.getD undef = y44 at hl
                generalize tt[45]?.getD undef = y45 at hl
                generalize tt[46]?.getD undef = y46 at hl
                generalize tt[47]?.getD undef = y47 at hl
                generalize tt[48]?.getD undef = y48 at hl
                generalize tt[49]?.getD undef = y49 at hl
                generalize tt[50]?.getD undef = y50 at hl
                generalize tt[51]?.getD undef = y51 at hl
                generalize tt[52]?.getD undef = y52 at hl
                generalize tt[53]?.getD undef = y53 at hl
                generalize tt[54]?.getD undef = y54 at hl
                generalize tt[55]?.getD undef = y55 at hl
                generalize tt[56]?.getD undef = y56 at hl
                generalize tt[57]?.getD undef = y57 at hl
                generalize tt[58]?.getD undef = y58 at hl
                generalize tt[59]?.getD undef = y59 at hl
                generalize tt[60]?.getD undef = y60 at hl
                generalize tt[61]?.getD undef = y61 at hl
                generalize tt[62]?.getD undef = y62 at hl
                generalize tt[63]?.getD undef = y63 at hl
                generalize tt[64]?.getD undef = y64 at hl
                generalize tt[65]?.getD undef = y65 at hl
                generalize tt[66]?.getD undef = y66 at hl
                generalize tt[67]?.getD undef = y67 at hl
                generalize tt[68]?.getD undef = y68 at hl
                generalize tt[69]?.getD undef = y69 at hl
                generalize tt[70]?.getD undef = y70 at hl
                generalize tt[71]?.getD undef = y71 at hl
                generalize tt[72]?.getD undef = y72 at hl
                generalize tt[73]?.getD undef = y73 at hl
                generalize tt[74]?.getD undef = y74 at hl
                generalize tt[75]?.getD undef = y75 at hl
                generalize tt[76]?.getD undef = y76 at hl
                generalize tt[77]?.getD undef = y77 at hl
                generalize tt[78]?.getD undef = y78 at hl
                generalize tt[79]?.getD undef = y79 at hl
                generalize tt[80]?.getD undef = y80 at hl
                generalize tt[81]?.getD undef = y81 at hl
                generalize tt[82]?.getD undef = y82 at hl
                generalize tt[83]?.getD undef = y83 at hl
                generalize tt[84]?.getD undef = y84 at hl
                generalize tt[85]?.getD undef = y85 at hl
                generalize tt[86]?.getD undef = y86 at hl
                generalize tt[87]?.getD undef = y87 at hl
                generalize tt[88]?.getD undef = y88 at hl
                subst hl
                have HF7 := Lib.hid hF
                have HR := Lib.hid hr
                have HLX7 : Hid ((xs ++ [r]).length ≤ 17) := Lib.hid (by have := HLX.out; simp; omega)
                clear hF hr
                go_wp2
                refine wp_region_inv6 (fun iq wv v => match iq with
                  | 0 => v = .pointer (some ⟨(w2.heap.size + 2), 1, none⟩)
                  | 1 => v = .slice Ay ys.length cy
                  | 2 => v = .pointer (some ⟨w.heap.size, 1, none⟩)
                  | 3 => v = .slice (some ⟨bl, ol, none⟩) l.length cl
                  | 4 => v = .int .i64 k
                  | 5 => v = .pointer (some ⟨bl, ol + k, none⟩)
                  | 6 => v = .float .f32 pl
                  | 7 => v = .float .f32 u
                  | 8 => v = .pointer (some ⟨(w.heap.size + 1), 1, none⟩)
                  | 9 => v = .slice (some ⟨bm, om, none⟩) m.length cm
                  | 10 => v = .int .i64 k
                  | 11 => v = .pointer (some ⟨bm, om + k, none⟩)
                  | 12 => v = .float .f32 pm
                  | 13 => v = .pointer (some ⟨w.heap.size, 1, none⟩)
                  | 14 => v = .slice (some ⟨bl, ol, none⟩) l.length cl
                  | 15 => v = .int .i64 k
                  | 16 => v = .pointer (some ⟨bl, ol + k, none⟩)
                  | 17 => v = .float .f32 pl
                  | 18 => ∃ r, v = .float .f32 r ∧ canon .f32 r = fop .sub .f32 (canon .f32 pm) (canon .f32 pl)
                  | 19 => ∃ r, v = .float .f32 r ∧ canon .f32 r = fop .mul .f32 (canon .f32 u) (fop .sub .f32 (canon .f32 pm) (canon .f32 pl))
                  | 20 => ∃ r, v = .float .f32 r ∧ canon .f32 r = mxV pl pm u
                  | 21 => SVa w9 (mxV pl pm u) wv v
                  | 22 => SVy w2 (w2.heap.size + 2) (.slice (some ⟨g, 0, none⟩) (xs.length + 1) cap) (.slice Ay ys.length cy) (xs ++ [r]) ys (mxV pl pm u) wv v
                  | 23 => v = .pointer (some ⟨(w2.heap.size + 2), 1, none⟩)
                  | 24 => True
                  | _ => False) (CR w9 ⟨(w2.heap.size + 2), 1, none⟩ (.slice Ay ys.length cy) 22 24 (FinY w2 (w2.heap.size + 2) (.slice (some ⟨g, 0, none⟩) (xs.length + 1) cap) (xs ++ [r]) ys (mxV pl pm u))) (by kernel_rfl) (by kernel_rfl) (CR.start (HF7.out.blk.2 1 _ rfl).1) ?hop ?hend
                case hop =>
                  intro q o hq listed act wq hI hnot hcl hall
                  have hC := hI.cls
                  have hBo : (w2.heap.size + 2) < w9.heap.size := HF7.out.blk.1
                  rcases q with _ | _ | _ | _ | _ | _ | _ | _ | _ | _ | _ | _ | _ | _ | _ | _ | _ | _ | _ | _ | _ | _ | _ | _ | _ | q
                  · simp at hq; subst hq
                    have h24 : listed.getD 24 false = false := hcl.not (j := 24) (i := 0) (e := ⟨0, .phase⟩) rfl (by simp) rfl rfl hnot
                    have g8 : act.tmps[8]?.getD undef = .pointer (some ⟨(w2.heap.size + 2), 0, none⟩) := hI.kept 8 (by kernel_rfl)
                    have hC2 := hC.same (k := 0) hI.len (by decide) (by decide) (by decide)
                    clear hI hall hnot hcl hC h24
                    refine .inl ⟨wanted_none rfl, ?_⟩
                    unfold Oper.wp
                    go_simp
                    all_goals first | exact ⟨_, rfl, fun _ _ _ h => h, rfl, hC2⟩ | exact ⟨_, rfl, rfl, hC2⟩ | exact ⟨rfl, hC2⟩ | exact hC2 | exact ⟨_, rfl, hC2⟩ | exact ⟨fun _ _ _ h => h, rfl, hC2⟩
                  · simp at hq; subst hq
                    have h24 : listed.getD 24 false = false := hcl.not (j := 24) (i := 1) (e := ⟨1, .phase⟩) rfl (by simp) rfl rfl hnot
                    have g65 : act.tmps[65]?.getD undef = .pointer (some ⟨(w2.heap.size + 2), 1, none⟩) := hI.has 0 65 rfl (hall ⟨0, .data⟩ (by simp) rfl)
                    have hc := hC.cell h24
                    have hC2 := hC.same (k := 1) hI.len (by decide) (by decide) (by decide)
                    clear hI hall hnot hcl hC h24
                    refine .inl ⟨wanted_none rfl, ?_⟩
                    unfold Oper.wp
                    go_simp
                    all_goals first | exact ⟨_, rfl, fun _ _ _ h => h, rfl, hC2⟩ | exact ⟨_, rfl, rfl, hC2⟩ | exact ⟨rfl, hC2⟩ | exact hC2 | exact ⟨_, rfl, hC2⟩ | exact ⟨fun _ _ _ h => h, rfl, hC2⟩
                  · simp at hq; subst hq
                    have h24 : listed.getD 24 false = false := hcl.not (j := 24) (i := 2) (e := ⟨2, .phase⟩) rfl (by simp) rfl rfl hnot
                    have g3 : act.tmps[3]?.getD undef = .pointer (some ⟨w.heap.size, 0, none⟩) := hI.kept 3 (by kernel_rfl)
                    have hC2 := hC.same (k := 2) hI.len (by decide) (by decide) (by decide)
                    clear hI hall hnot hcl hC h24
                    refine .inl ⟨wanted_none rfl, ?_⟩
                    unfold Oper.wp
                    go_simp
                    all_goals first | exact ⟨_, rfl, fun _ _ _ h => h, rfl, hC2⟩ | exact ⟨_, rfl, rfl, hC2⟩ | exact ⟨rfl, hC2⟩ | exact hC2 | exact ⟨_, rfl, hC2⟩ | exact ⟨fun _ _ _ h => h, rfl, hC2⟩
                  · simp at hq; subst hq
                    have h24 : listed.getD 24 false = false := hcl.not (j := 24) (i := 3) (e := ⟨3, .phase⟩) rfl (by simp) rfl rfl hnot
                    have hl5 : listed.getD 5 false = false := hcl.not (j := 5) (i := 3) (e := ⟨3, .data⟩) rfl (by simp) rfl rfl hnot
                    have hl6 : listed.getD 6 false = false := hcl.not (j := 6) (i := 5) (e := ⟨5, .data⟩) rfl (by simp) rfl rfl hl5
                    have hl20 : listed.getD 20 false = false := hcl.not (j := 20) (i := 6) (e := ⟨6, .data⟩) rfl (by simp) rfl rfl hl6
                    have hl21 : listed.getD 21 false = false := hcl.not (j := 21) (i := 20) (e := ⟨20, .data⟩) rfl (by simp) rfl rfl hl20
                    have hl22 : listed.getD 22 false = false := hcl.not (j := 22) (i := 21) (e := ⟨21, .data⟩) rfl (by simp) rfl rfl hl21
                    have g67 : act.tmps[67]?.getD undef = .pointer (some ⟨w.heap.size, 1, none⟩) := hI.has 2 67 rfl (hall ⟨2, .data⟩ (by simp) rfl)
                    have hB := hC.low hl22
                    have hc := ((L2.out.below (below_of HF7.out.below HF7.out.below.size hB)).2 1 _ rfl).1
                    have hC2 := hC.same (k := 3) hI.len (by decide) (by decide) (by decide)
                    clear hI hall hnot hcl hC h24 hB hl5 hl6 hl20 hl21 hl22
                    refine .inl ⟨wanted_none rfl, ?_⟩
                    unfold Oper.wp
                    go_simp
                    all_goals first | exact ⟨_, rfl, fun _ _ _ h => h, rfl, hC2⟩ | exact ⟨_, rfl, rfl, hC2⟩ | exact ⟨rfl, hC2⟩ | exact hC2 | exact ⟨_, rfl, hC2⟩ | exact ⟨fun _ _ _ h => h, rfl, hC2⟩
                  · simp at hq; subst hq
                    have h24 : listed.getD 24 false = false := hcl.not (j := 24) (i := 4) (e := ⟨4, .phase⟩) rfl (by simp) rfl rfl hnot
                    have g9 : act.tmps[9]?.getD undef = .int .i64 k := hI.kept 9 (by kernel_rfl)
                    have hC2 := hC.same (k := 4) hI.len (by decide) (by decide) (by decide)
                    clear hI hall hnot hcl hC h24
                    refine .inl ⟨wanted_none rfl, ?_⟩
                    unfold Oper.wp
                    go_simp
                    all_goals first | exact ⟨_, rfl, fun _ _ _ h => h, rfl, hC2⟩ | exact ⟨_, rfl, rfl, hC2⟩ | exact ⟨rfl, hC2⟩ | exact hC2 | exact ⟨_, rfl, hC2⟩ | exact ⟨fun _ _ _ h => h, rfl, hC2⟩
                  · simp at hq; subst hq
                    have h24 : listed.getD 24 false = false := hcl.not (j := 24) (i := 5) (e := ⟨5, .phase⟩) rfl (by simp) rfl rfl hnot
                    have g68 : act.tmps[68]?.getD undef = .slice (some ⟨bl, ol, none⟩) l.length cl := hI.has 3 68 rfl (hall ⟨3, .data⟩ (by simp) rfl)
                    have g69 : act.tmps[69]?.getD undef = .int .i64 k := hI.has 4 69 rfl (hall ⟨4, .data⟩ (by simp) rfl)
                    have hC2 := hC.same (k := 5) hI.len (by decide) (by decide) (by decide)
                    clear hI hall hnot hcl hC h24
                    refine .inl ⟨wanted_none rfl, ?_⟩
                    unfold Oper.wp
                    go_simp
                    all_goals first | exact ⟨_, rfl, fun _ _ _ h => h, rfl, hC2⟩ | exact ⟨_, rfl, rfl, hC2⟩ | exact ⟨rfl, hC2⟩ | exact hC2 | exact ⟨_, rfl, hC2⟩ | exact ⟨fun _ _ _ h => h, rfl, hC2⟩
                  · simp at hq; subst hq
                    have h24 : listed.getD 24 false = false := hcl.not (j := 24) (i := 6) (e := ⟨6, .phase⟩) rfl (by simp) rfl rfl hnot
                    have hl20 : listed.getD 20 false = false := hcl.not (j := 20) (i := 6) (e := ⟨6, .data⟩) rfl (by simp) rfl rfl hnot
                    have hl21 : listed.getD 21 false = false := hcl.not (j := 21) (i := 20) (e := ⟨20, .data⟩) rfl (by simp) rfl rfl hl20
                    have hl22 : listed.getD 22 false = false := hcl.not (j := 22) (i := 21) (e := ⟨21, .data⟩) rfl (by simp) rfl rfl hl21
                    have g70 : act.tmps[70]?.getD undef = .pointer (some ⟨bl, ol + k, none⟩) := hI.has 5 70 rfl (hall ⟨5, .data⟩ (by simp) rfl)
                    have hB := hC.low hl22
                    have hc := HCL2.out _ (below_of HF7.out.below HF7.out.below.size hB)
                    have hC2 := hC.same (k := 6) hI.len (by decide) (by decide) (by decide)
                    clear hI hall hnot hcl hC h24 hB hl20 hl21 hl22
                    refine .inl ⟨wanted_none rfl, ?_⟩
                    unfold Oper.wp
                    go_simp
                    all_goals first | exact ⟨_, rfl, fun _ _ _ h => h, rfl, hC2⟩ | exact ⟨_, rfl, rfl, hC2⟩ | exact ⟨rfl, hC2⟩ | exact hC2 | exact ⟨_, rfl, hC2⟩ | exact ⟨fun _ _ _ h => h, rfl, hC2⟩
                  · simp at hq; subst hq
                    have h24 : listed.getD 24 false = false := hcl.not (j := 24) (i := 7) (e := ⟨7, .phase⟩) rfl (by simp) rfl rfl hnot
                    have g2 : act.tmps[2]?.getD undef = .float .f32 u := hI.kept 2 (by kernel_rfl)
                    have hC2 := hC.same (k := 7) hI.len (by decide) (by decide) (by decide)
                    clear hI hall hnot hcl hC h24
                    refine .inl ⟨wanted_none rfl, ?_⟩
                    unfold Oper.wp
                    go_simp
                    all_goals first | exact ⟨_, rfl, fun _ _ _ h => h, rfl, hC2⟩ | exact ⟨_, rfl, rfl, hC2⟩ | exact ⟨rfl, hC2⟩ | exact hC2 | exact ⟨_, rfl, hC2⟩ | exact ⟨fun _ _ _ h => h, rfl, hC2⟩
                  · simp at hq; subst hq
                    have h24 : listed.getD 24 false = false := hcl.not (j := 24) (i := 8) (e := ⟨8, .phase⟩) rfl (by simp) rfl rfl hnot
                    have g4 : act.tmps[4]?.getD undef = .pointer (some ⟨(w.heap.size + 1), 0, none⟩) := hI.kept 4 (by kernel_rfl)
                    have hC2 := hC.same (k := 8) hI.len (by decide) (by decide) (by decide)
                    clear hI hall hnot hcl hC h24
                    refine .inl ⟨wanted_none rfl, ?_⟩
                    unfold Oper.wp
                    go_simp
                    all_goals first | exact ⟨_, rfl, fun _ _ _ h => h, rfl, hC2⟩ | exact ⟨_, rfl, rfl, hC2⟩ | exact ⟨rfl, hC2⟩ | exact hC2 | exact ⟨_, rfl, hC2⟩ | exact ⟨fun _ _ _ h => h, rfl, hC2⟩
                  · simp at hq; subst hq
                    have h24 : listed.getD 24 false = false := hcl.not (j := 24) (i := 9) (e := ⟨9, .phase⟩) rfl (by simp) rfl rfl hnot
                    have hl11 : listed.getD 11 false = false := hcl.not (j := 11) (i := 9) (e := ⟨9, .data⟩) rfl (by simp) rfl rfl hnot
                    have hl12 : listed.getD 12 false = false := hcl.not (j := 12) (i := 11) (e := ⟨11, .data⟩) rfl (by simp) rfl rfl hl11
                    have hl18 : listed.getD 18 false = false := hcl.not (j := 18) (i := 12) (e := ⟨12, .data⟩) rfl (by simp) rfl rfl hl12
                    have hl19 : listed.getD 19 false = false := hcl.not (j := 19) (i := 18) (e := ⟨18, .data⟩) rfl (by simp) rfl rfl hl18
                    have hl20 : listed.getD 20 false = false := hcl.not (j := 20) (i := 19) (e := ⟨19, .data⟩) rfl (by simp) rfl rfl hl19
                    have hl21 : listed.getD 21 false = false := hcl.not (j := 21) (i := 20) (e := ⟨20, .data⟩) rfl (by simp) rfl rfl hl20
                    have hl22 : listed.getD 22 false = false := hcl.not (j := 22) (i := 21) (e := ⟨21, .data⟩) rfl (by simp) rfl rfl hl21
                    have g73 : act.tmps[73]?.getD undef = .pointer (some ⟨(w.heap.size + 1), 1, none⟩) := hI.has 8 73 rfl (hall ⟨8, .data⟩ (by simp) rfl)
                    have hB := hC.low hl22
                    have hc := ((M2.out.below (below_of HF7.out.below HF7.out.below.size hB)).2 1 _ rfl).1
                    have hC2 := hC.same (k := 9) hI.len (by decide) (by decide) (by decide)
                    clear hI hall hnot hcl hC h24 hB hl11 hl12 hl18 hl19 hl20 hl21 hl22
                    refine .inl ⟨wanted_none rfl, ?_⟩
                    unfold Oper.wp
                    go_simp
                    all_goals first | exact ⟨_, rfl, fun _ _ _ h => h, rfl, hC2⟩ | exact ⟨_, rfl, rfl, hC2⟩ | exact ⟨rfl, hC2⟩ | exact hC2 | exact ⟨_, rfl, hC2⟩ | exact ⟨fun _ _ _ h => h, rfl, hC2⟩
                  · simp at hq; subst hq
                    have h24 : listed.getD 24 false = false := hcl.not (j := 24) (i := 10) (e := ⟨10, .phase⟩) rfl (by simp) rfl rfl hnot
                    have g9 : act.tmps[9]?.getD undef = .int .i64 k := hI.kept 9 (by kernel_rfl)
                    have hC2 := hC.same (k := 10) hI.len (by decide) (by decide) (by decide)
                    clear hI hall hnot hcl hC h24
                    refine .inl ⟨wanted_none rfl, ?_⟩
                    unfold Oper.wp
                    go_simp
                    all_goals first | exact ⟨_, rfl, fun _ _ _ h => h, rfl, hC2⟩ | exact ⟨_, rfl, rfl, hC2⟩ | exact ⟨rfl, hC2⟩ | exact hC2 | exact ⟨_, rfl, hC2⟩ | exact ⟨fun _ _ _ h => h, rfl, hC2⟩
                  · simp at hq; subst hq
                    have h24 : listed.getD 24 false = false := hcl.not (j := 24) (i := 11) (e := ⟨11, .phase⟩) rfl (by simp) rfl rfl hnot
                    have g74 : act.tmps[74]?.getD undef = .slice (some ⟨bm, om, none⟩) m.length cm := hI.has 9 74 rfl (hall ⟨9, .data⟩ (by simp) rfl)
                    have g75 : act.tmps[75]?.getD undef = .int .i64 k := hI.has 10 75 rfl (hall ⟨10, .data⟩ (by simp) rfl)
                    have hC2 := hC.same (k := 11) hI.len (by decide) (by decide) (by decide)
                    clear hI hall hnot hcl hC h24
                    refine .inl ⟨wanted_none rfl, ?_⟩
                    unfold Oper.wp
                    go_simp
                    all_goals first | exact ⟨_, rfl, fun _ _ _ h => h, rfl, hC2⟩ | exact ⟨_, rfl, rfl, hC2⟩ | exact ⟨rfl, hC2⟩ | exact hC2 | exact ⟨_, rfl, hC2⟩ | exact ⟨fun _ _ _ h => h, rfl, hC2⟩
                  · simp at hq; subst hq
                    have h24 : listed.getD 24 false = false := hcl.not (j := 24) (i := 12) (e := ⟨12, .phase⟩) rfl (by simp) rfl rfl hnot
                    have hl18 : listed.getD 18 false = false := hcl.not (j := 18) (i := 12) (e := ⟨12, .data⟩) rfl (by simp) rfl rfl hnot
                    have hl19 : listed.getD 19 false = false := hcl.not (j := 19) (i := 18) (e := ⟨18, .data⟩) rfl (by simp) rfl rfl hl18
                    have hl20 : listed.getD 20 false = false := hcl.not (j := 20) (i := 19) (e := ⟨19, .data⟩) rfl (by simp) rfl rfl hl19
                    have hl21 : listed.getD 21 false = false := hcl.not (j := 21) (i := 20) (e := ⟨20, .data⟩) rfl (by simp) rfl rfl hl20
                    have hl22 : listed.getD 22 false = false := hcl.not (j := 22) (i := 21) (e := ⟨21, .data⟩) rfl (by simp) rfl rfl hl21
                    have g76 : act.tmps[76]?.getD undef = .pointer (some ⟨bm, om + k, none⟩) := hI.has 11 76 rfl (hall ⟨11, .data⟩ (by simp) rfl)
                    have hB := hC.low hl22
                    have hc := HCM.out _ (below_of HF7.out.below HF7.out.below.size hB)
                    have hC2 := hC.same (k := 12) hI.len (by decide) (by decide) (by decide)
                    clear hI hall hnot hcl hC h24 hB hl18 hl19 hl20 hl21 hl22
                    refine .inl ⟨wanted_none rfl, ?_⟩
                    unfold Oper.wp
                    go_simp
                    all_goals first | exact ⟨_, rfl, fun _ _ _ h => h, rfl, hC2⟩ | exact ⟨_, rfl, rfl, hC2⟩ | exact ⟨rfl, hC2⟩ | exact hC2 | exact ⟨_, rfl, hC2⟩ | exact ⟨fun _ _ _ h => h, rfl, hC2⟩
                  · simp at hq; subst hq
                    have h24 : listed.getD 24 false = false := hcl.not (j := 24) (i := 13) (e := ⟨13, .phase⟩) rfl (by simp) rfl rfl hnot
                    have g3 : act.tmps[3]?.getD undef = .pointer (some ⟨w.heap.size, 0, none⟩) := hI.kept 3 (by kernel_rfl)
                    have hC2 := hC.same (k := 13) hI.len (by decide) (by decide) (by decide)
                    clear hI hall hnot hcl hC h24
                    refine .inl ⟨wanted_none rfl, ?_⟩
                    unfold Oper.wp
                    go_simp
                    all_goals first | exact ⟨_, rfl, fun _ _ _ h => h, rfl, hC2⟩ | exact ⟨_, rfl, rfl, hC2⟩ | exact ⟨rfl, hC2⟩ | exact hC2 | exact ⟨_, rfl, hC2⟩ | exact ⟨fun _ _ _ h => h, rfl, hC2⟩
                  · simp at hq; subst hq
                    have h24 : listed.getD 24 false = false := hcl.not (j := 24) (i := 14) (e := ⟨14, .phase⟩) rfl (by simp) rfl rfl hnot
                    have hl16 : listed.getD 16 false = false := hcl.not (j := 16) (i := 14) (e := ⟨14, .data⟩) rfl (by simp) rfl rfl hnot
                    have hl17 : listed.getD 17 false = false := hcl.not (j := 17) (i := 16) (e := ⟨16, .data⟩) rfl (by simp) rfl rfl hl16
                    have hl18 : listed.getD 18 false = false := hcl.not (j := 18) (i := 17) (e := ⟨17, .data⟩) rfl (by simp) rfl rfl hl17
                    have hl19 : listed.getD 19 false = false := hcl.not (j := 19) (i := 18) (e := ⟨18, .data⟩) rfl (by simp) rfl rfl hl18
                    have hl20 : listed.getD 20 false = false := hcl.not (j := 20) (i := 19) (e := ⟨19, .data⟩) rfl (by simp) rfl rfl hl19
                    have hl21 : listed.getD 21 false = false := hcl.not (j := 21) (i := 20) (e := ⟨20, .data⟩) rfl (by simp) rfl rfl hl20
                    have hl22 : listed.getD 22 false = false := hcl.not (j := 22) (i := 21) (e := ⟨21, .data⟩) rfl (by simp) rfl rfl hl21
                    have g78 : act.tmps[78]?.getD undef = .pointer (some ⟨w.heap.size, 1, none⟩) := hI.has 13 78 rfl (hall ⟨13, .data⟩ (by simp) rfl)
                    have hB := hC.low hl22
                    have hc := ((L2.out.below (below_of HF7.out.below HF7.out.below.size hB)).2 1 _ rfl).1
                    have hC2 := hC.same (k := 14) hI.len (by decide) (by decide) (by decide)
                    clear hI hall hnot hcl hC h24 hB hl16 hl17 hl18 hl19 hl20 hl21 hl22
                    refine .inl ⟨wanted_none rfl, ?_⟩
                    unfold Oper.wp
                    go_simp
                    all_goals first | exact ⟨_, rfl, fun _ _ _ h => h, rfl, hC2⟩ | exact ⟨_, rfl, rfl, hC2⟩ | exact ⟨rfl, hC2⟩ | exact hC2 | exact ⟨_, rfl, hC2⟩ | exact ⟨fun _ _ _ h => h, rfl, hC2⟩
                  · simp at hq; subst hq
                    have h24 : listed.getD 24 false = false := hcl.not (j := 24) (i := 15) (e := ⟨15, .phase⟩) rfl (by simp) rfl rfl hnot
                    have g9 : act.tmps[9]?.getD undef = .int .i64 k := hI.kept 9 (by kernel_rfl)
                    have hC2 := hC.same (k := 15) hI.len (by decide) (by decide) (by decide)
                    clear hI hall hnot hcl hC h24
                    refine .inl ⟨wanted_none rfl, ?_⟩
                    unfold Oper.wp
                    go_simp
                    all_goals first | exact ⟨_, rfl, fun _ _ _ h => h, rfl, hC2⟩ | exact ⟨_, rfl, rfl, hC2⟩ | exact ⟨rfl, hC2⟩ | exact hC2 | exact ⟨_, rfl, hC2⟩ | exact ⟨fun _ _ _ h => h, rfl, hC2⟩
                  · simp at hq; subst hq
                    have h24 : listed.getD 24 false = false := hcl.not (j := 24) (i := 16) (e := ⟨16, .phase⟩) rfl (by simp) rfl rfl hnot
                    have g79 : act.tmps[79]?.getD undef = .slice (some ⟨bl, ol, none⟩) l.length cl := hI.has 14 79 rfl (hall ⟨14, .data⟩ (by simp) rfl)
                    have g80 : act.tmps[80]?.getD undef = .int .i64 k := hI.has 15 80 rfl (hall ⟨15, .data⟩ (by simp) rfl)
                    have hC2 := hC.same (k := 16) hI.len (by decide) (by decide) (by decide)
                    clear hI hall hnot hcl hC h24
                    refine .inl ⟨wanted_none rfl, ?_⟩
                    unfold Oper.wp
                    go_simp
                    all_goals first | exact ⟨_, rfl, fun _ _ _ h => h, rfl, hC2⟩ | exact ⟨_, rfl, rfl, hC2⟩ | exact ⟨rfl, hC2⟩ | exact hC2 | exact ⟨_, rfl, hC2⟩ | exact ⟨fun _ _ _ h => h, rfl, hC2⟩
                  · simp at hq; subst hq
                    have h24 : listed.getD 24 false = false := hcl.not (j := 24) (i := 17) (e := ⟨17, .phase⟩) rfl (by simp) rfl rfl hnot
                    have hl18 : listed.getD 18 false = false := hcl.not (j := 18) (i := 17) (e := ⟨17, .data⟩) rfl (by simp) rfl rfl hnot
                    have hl19 : listed.getD 19 false = false := hcl.not (j := 19) (i := 18) (e := ⟨18, .data⟩) rfl (by simp) rfl rfl hl18
                    have hl20 : listed.getD 20 false = false := hcl.not (j := 20) (i := 19) (e := ⟨19, .data⟩) rfl (by simp) rfl rfl hl19
                    have hl21 : listed.getD 21 false = false := hcl.not (j := 21) (i := 20) (e := ⟨20, .data⟩) rfl (by simp) rfl rfl hl20
                    have hl22 : listed.getD 22 false = false := hcl.not (j := 22) (i := 21) (e := ⟨21, .data⟩) rfl (by simp) rfl rfl hl21
                    have g81 : act.tmps[81]?.getD undef = .pointer (some ⟨bl, ol + k, none⟩) := hI.has 16 81 rfl (hall ⟨16, .data⟩ (by simp) rfl)
                    have hB := hC.low hl22
                    have hc := HCL2.out _ (below_of HF7.out.below HF7.out.below.size hB)
                    have hC2 := hC.same (k := 17) hI.len (by decide) (by decide) (by decide)
                    clear hI hall hnot hcl hC h24 hB hl18 hl19 hl20 hl21 hl22
                    refine .inl ⟨wanted_none rfl, ?_⟩
                    unfold Oper.wp
                    go_simp
                    all_goals first | exact ⟨_, rfl, fun _ _ _ h => h, rfl, hC2⟩ | exact ⟨_, rfl, rfl, hC2⟩ | exact ⟨rfl, hC2⟩ | exact hC2 | exact ⟨_, rfl, hC2⟩ | exact ⟨fun _ _ _ h => h, rfl, hC2⟩
                  · simp at hq; subst hq
                    have h24 : listed.getD 24 false = false := hcl.not (j := 24) (i := 18) (e := ⟨18, .phase⟩) rfl (by simp) rfl rfl hnot
                    have hl19 : listed.getD 19 false = false := hcl.not (j := 19) (i := 18) (e := ⟨18, .data⟩) rfl (by simp) rfl rfl hnot
                    have hl20 : listed.getD 20 false = false := hcl.not (j := 20) (i := 19) (e := ⟨19, .data⟩) rfl (by simp) rfl rfl hl19
                    have hl21 : listed.getD 21 false = false := hcl.not (j := 21) (i := 20) (e := ⟨20, .data⟩) rfl (by simp) rfl rfl hl20
                    have hl22 : listed.getD 22 false = false := hcl.not (j := 22) (i := 21) (e := ⟨21, .data⟩) rfl (by simp) rfl rfl hl21
                    have g77 : act.tmps[77]?.getD undef = .float .f32 pm := hI.has 12 77 rfl (hall ⟨12, .data⟩ (by simp) rfl)
                    have g82 : act.tmps[82]?.getD undef = .float .f32 pl := hI.has 17 82 rfl (hall ⟨17, .data⟩ (by simp) rfl)
                    have hB := hC.low hl22
                    have hC2 := fun w4 (b4 : Below wq.heap.size wq w4) => hC.step (k := 18) hI.len (by decide) (by decide) (by decide) h24 hBo b4 hB.size
                    clear hI hall hnot hcl hC h24 hB
                    refine .inl ⟨wanted_none rfl, ?_⟩
                    unfold Oper.wp
                    go_simp
                    refine ⟨_, rfl, fun j u hj hV => ?_, ⟨_, rfl, canonF rfl rfl⟩, hC2 _ (below_draws (Below.refl _ _) _)⟩
                    rcases j with _ | _ | _ | _ | _ | _ | _ | _ | _ | _ | _ | _ | _ | _ | _ | _ | _ | _ | _ | _ | _ | _ | _ | _ | _ | j
                    · exact hV
                    · exact hV
                    · exact hV
                    · exact hV
                    · exact hV
                    · exact hV
                    · exact hV
                    · exact hV
                    · exact hV
                    · exact hV
                    · exact hV
                    · exact hV
                    · exact hV
                    · exact hV
                    · exact hV
                    · exact hV
                    · exact hV
                    · exact hV
                    · exact hV
                    · exact hV
                    · exact hV
                    · first | exact Bool.noConfusion (hl21.symm.trans hj) | (rw [Array.getD_eq_getD_getElem?] at hl21; exact Bool.noConfusion (hl21.symm.trans hj))
                    · first | exact Bool.noConfusion (hl22.symm.trans hj) | (rw [Array.getD_eq_getD_getElem?] at hl22; exact Bool.noConfusion (hl22.symm.trans hj))
                    · exact hV
                    · exact hV
                    · exact hV
                  · simp at hq; subst hq
                    have h24 : listed.getD 24 false = false := hcl.not (j := 24) (i := 19) (e := ⟨19, .phase⟩) rfl (by simp) rfl rfl hnot
                    have hl20 : listed.getD 20 false = false := hcl.not (j := 20) (i := 19) (e := ⟨19, .data⟩) rfl (by simp) rfl rfl hnot
                    have hl21 : listed.getD 21 false = false := hcl.not (j := 21) (i := 20) (e := ⟨20, .data⟩) rfl (by simp) rfl rfl hl20
                    have hl22 : listed.getD 22 false = false := hcl.not (j := 22) (i := 21) (e := ⟨21, .data⟩) rfl (by simp) rfl rfl hl21
                    have g72 : act.tmps[72]?.getD undef = .float .f32 u := hI.has 7 72 rfl (hall ⟨7, .data⟩ (by simp) rfl)
                    obtain ⟨r18, g83, h18⟩ := hI.has 18 83 rfl (hall ⟨18, .data⟩ (by simp) rfl)
                    have hB := hC.low hl22
                    have hC2 := fun w4 (b4 : Below wq.heap.size wq w4) => hC.step (k := 19) hI.len (by decide) (by decide) (by decide) h24 hBo b4 hB.size
                    clear hI hall hnot hcl hC h24 hB
                    refine .inl ⟨wanted_none rfl, ?_⟩
                    unfold Oper.wp
                    go_simp
                    refine ⟨_, rfl, fun j u hj hV => ?_, ⟨_, rfl, canonF rfl h18⟩, hC2 _ (below_draws (Below.refl _ _) _)⟩
                    rcases j with _ | _ | _ | _ | _ | _ | _ | _ | _ | _ | _ | _ | _ | _ | _ | _ | _ | _ | _ | _ | _ | _ | _ | _ | _ | j
                    · exact hV
                    · exact hV
                    · exact hV
                    · exact hV
                    · exact hV
                    · exact hV
                    · exact hV
                    · exact hV
                    · exact hV
                    · exact hV
                    · exact hV
                    · exact hV
                    · exact hV
                    · exact hV
                    · exact hV
                    · exact hV
                    · exact hV
                    · exact hV
                    · exact hV
                    · exact hV
                    · exact hV
                    · first | exact Bool.noConfusion (hl21.symm.trans hj) | (rw [Array.getD_eq_getD_getElem?] at hl21; exact Bool.noConfusion (hl21.symm.trans hj))
                    · first | exact Bool.noConfusion (hl22.symm.trans hj) | (rw [Array.getD_eq_getD_getElem?] at hl22; exact Bool.noConfusion (hl22.symm.trans hj))
                    · exact hV
                    · exact hV
                    · exact hV
                  · simp at hq; subst hq
                    have h24 : listed.getD 24 false = false := hcl.not (j := 24) (i := 20) (e := ⟨20, .phase⟩) rfl (by simp) rfl rfl hnot
                    have hl21 : listed.getD 21 false = false := hcl.not (j := 21) (i := 20) (e := ⟨20, .data⟩) rfl (by simp) rfl rfl hnot
                    have hl22 : listed.getD 22 false = false := hcl.not (j := 22) (i := 21) (e := ⟨21, .data⟩) rfl (by simp) rfl rfl hl21
                    have g71 : act.tmps[71]?.getD undef = .float .f32 pl := hI.has 6 71 rfl (hall ⟨6, .data⟩ (by simp) rfl)
                    obtain ⟨r19, g84, h19⟩ := hI.has 19 84 rfl (hall ⟨19, .data⟩ (by simp) rfl)
                    have hB := hC.low hl22
                    have hC2 := fun w4 (b4 : Below wq.heap.size wq w4) => hC.step (k := 20) hI.len (by decide) (by decide) (by decide) h24 hBo b4 hB.size
                    clear hI hall hnot hcl hC h24 hB
                    refine .inl ⟨wanted_none rfl, ?_⟩
                    unfold Oper.wp
                    go_simp
                    refine ⟨_, rfl, fun j u hj hV => ?_, ⟨_, rfl, canonF rfl h19⟩, hC2 _ (below_draws (Below.refl _ _) _)⟩
                    rcases j with _ | _ | _ | _ | _ | _ | _ | _ | _ | _ | _ | _ | _ | _ | _ | _ | _ | _ | _ | _ | _ | _ | _ | _ | _ | j
                    · exact hV
                    · exact hV
                    · exact hV
                    · exact hV
                    · exact hV
                    · exact hV
                    · exact hV
                    · exact hV
                    · exact hV
                    · exact hV
                    · exact hV
                    · exact hV
                    · exact hV
                    · exact hV
                    · exact hV
                    · exact hV
                    · exact hV
                    · exact hV
                    · exact hV
                    · exact hV
                    · exact hV
                    · first | exact Bool.noConfusion (hl21.symm.trans hj) | (rw [Array.getD_eq_getD_getElem?] at hl21; exact Bool.noConfusion (hl21.symm.trans hj))
                    · first | exact Bool.noConfusion (hl22.symm.trans hj) | (rw [Array.getD_eq_getD_getElem?] at hl22; exact Bool.noConfusion (hl22.symm.trans hj))
                    · exact hV
                    · exact hV
                    · exact hV
                  · simp at hq; subst hq
                    have h24 : listed.getD 24 false = false := hcl.not (j := 24) (i := 21) (e := ⟨21, .phase⟩) rfl (by simp) rfl rfl hnot
                    have hl22 : listed.getD 22 false = false := hcl.not (j := 22) (i := 21) (e := ⟨21, .data⟩) rfl (by simp) rfl rfl hnot
                    obtain ⟨r20, g85, h20⟩ := hI.has 20 85 rfl (hall ⟨20, .data⟩ (by simp) rfl)
                    have hB := hC.low hl22
                    have hC2 := hC.step (k := 21) hI.len (by decide) (by decide) (by decide) h24 hBo ((Below.refl _ _).alloc (Nat.le_refl _) (.cells #[.float .f32 r20] 25)) hB.size
                    have hnot2 : listed.getD 21 false = false := hnot
                    clear hI hall hnot hcl hC h24
                    refine .inl ⟨wanted_none rfl, ?_⟩
                    unfold Oper.wp
                    go_simp
                    first | refine ⟨_, rfl, fun j u hj hV => ?_, SVa.made h20 hB, hC2⟩ | refine ⟨_, rfl, fun j u hj hV => ?_, SVa.made h20 hB⟩
                    rcases j with _ | _ | _ | _ | _ | _ | _ | _ | _ | _ | _ | _ | _ | _ | _ | _ | _ | _ | _ | _ | _ | _ | _ | _ | _ | j
                    · exact hV
                    · exact hV
                    · exact hV
                    · exact hV
                    · exact hV
                    · exact hV
                    · exact hV
                    · exact hV
                    · exact hV
                    · exact hV
                    · exact hV
                    · exact hV
                    · exact hV
                    · exact hV
                    · exact hV
                    · exact hV
                    · exact hV
                    · exact hV
                    · exact hV
                    · exact hV
                    · exact hV
                    · first | exact Bool.noConfusion (hnot2.symm.trans hj) | (rw [Array.getD_eq_getD_getElem?] at hnot2; exact Bool.noConfusion (hnot2.symm.trans hj))
                    · first | exact Bool.noConfusion (hl22.symm.trans hj) | (rw [Array.getD_eq_getD_getElem?] at hl22; exact Bool.noConfusion (hl22.symm.trans hj))
                    · exact hV
                    · exact hV
                    · exact hV
                  · simp at hq; subst hq
                    have h24 : listed.getD 24 false = false := hcl.not (j := 24) (i := 22) (e := ⟨22, .phase⟩) rfl (by simp) rfl rfl hnot
                    have g66 : act.tmps[66]?.getD undef = .slice Ay ys.length cy := hI.has 1 66 rfl (hall ⟨1, .data⟩ (by simp) rfl)
                    obtain ⟨B7, r7, g86, h7a, h7b, h7c⟩ := hI.has 21 86 rfl (hall ⟨21, .data⟩ (by simp) rfl)
                    have hB := hC.low hnot
                    have hFq := HF7.out.more hB
                    have hlen := hI.len
                    have hnot2 : listed.getD 22 false = false := hnot
                    clear hI hall hnot hcl
                    refine .inl ⟨wanted_none rfl, ?_⟩
                    refine wp_append_lies _ (.tmp 66) (.tmp 86) 22 rfl w2.heap.size 25 i0 (.float .f32 0) 1 4 Try.underlying22 HI.out HZ0.out HZ1.out HZ2.out rfl (by decide) (.slice Ay ys.length cy) ys.length (ys.map (Value.float .f32)) (by simp [Act.eval, g66]) hFq.gy ⟨B7, 0, none⟩ 1 1 [.float .f32 r7] (by simp [Act.eval, g86]) rfl ?c1 ?c2 (by decide) ?c3 ?c4 hFq.below.size wq.heap.size rfl (fun g cap w9 hown hgrow hat _ => ?_)
                    case c1 =>
                      intro j u hj
                      match j, hj with
                      | 0, hj => simp at hj; subst hj; exact (h7c.2 0 _ rfl).1
                      | j + 1, hj => simp at hj
                    case c2 => intro u hu; simp at hu; subst hu; rfl
                    case c3 => have := HLX.out; unfold maxLen; omega
                    case c4 => have := HLX.out; omega
                    have hF9 := FR.growY (m := 1) (zs := [r7]) hFq rfl (by simpa using hown) hgrow (by rcases hat with e | e; exact .inl e.symm; exact .inr (by rw [e]; rfl))
                    have hK9 := hFq.blk.keptR hgrow hFq.ny
                    have hC2 := CR.app (ap := 22) (st := 24) hlen (by decide) (by decide) h24 (hK9.2 1 _ rfl).1 hC
                    refine ⟨_, rfl, fun j u hj hV => ?_, ⟨g, cap, rfl, fun _ => ⟨r7, h7a, hK9, hF9⟩⟩, hC2⟩
                    rcases j with _ | _ | _ | _ | _ | _ | _ | _ | _ | _ | _ | _ | _ | _ | _ | _ | _ | _ | _ | _ | _ | _ | _ | _ | _ | j
                    · exact hV
                    · exact hV
                    · exact hV
                    · exact hV
                    · exact hV
                    · exact hV
                    · exact hV
                    · exact hV
                    · exact hV
                    · exact hV
                    · exact hV
                    · exact hV
                    · exact hV
                    · exact hV
                    · exact hV
                    · exact hV
                    · exact hV
                    · exact hV
                    · exact hV
                    · exact hV
                    · exact hV
                    · exact SVa.grown hV hgrow (fun k hk => (HF7.out.gy.ltR hk).2)
                    · first | exact Bool.noConfusion (hnot2.symm.trans hj) | (rw [Array.getD_eq_getD_getElem?] at hnot2; exact Bool.noConfusion (hnot2.symm.trans hj))
                    · exact hV
                    · exact hV
                    · exact hV
                  · simp at hq; subst hq
                    have h24 : listed.getD 24 false = false := hcl.not (j := 24) (i := 23) (e := ⟨23, .data⟩) rfl (by simp) rfl rfl hnot
                    have g8 : act.tmps[8]?.getD undef = .pointer (some ⟨(w2.heap.size + 2), 0, none⟩) := hI.kept 8 (by kernel_rfl)
                    have hC2 := hC.same (k := 23) hI.len (by decide) (by decide) (by decide)
                    clear hI hall hnot hcl hC h24
                    refine .inl ⟨wanted_none rfl, ?_⟩
                    unfold Oper.wp
                    go_simp
                    all_goals first | exact ⟨_, rfl, fun _ _ _ h => h, rfl, hC2⟩ | exact ⟨_, rfl, rfl, hC2⟩ | exact ⟨rfl, hC2⟩ | exact hC2 | exact ⟨_, rfl, hC2⟩ | exact ⟨fun _ _ _ h => h, rfl, hC2⟩
                  · simp at hq; subst hq
                    have g88 : act.tmps[88]?.getD undef = .pointer (some ⟨(w2.heap.size + 2), 1, none⟩) := hI.has 23 88 rfl (hall ⟨23, .data⟩ (by simp) rfl)
                    obtain ⟨gq, cq, g87, hs⟩ := hI.has 22 87 rfl (hall ⟨22, .data⟩ (by simp) rfl)
                    have h22 := hall ⟨22, .data⟩ (by simp) rfl
                    have hcell := hC.cell hnot
                    obtain ⟨rq, hrq, hK, hF⟩ := hs hcell
                    have k0 := (hK.2 1 _ rfl).1
                    have k1 := (hK.2 1 _ rfl).2
                    have hfin : FinY w2 (w2.heap.size + 2) (.slice (some ⟨g, 0, none⟩) (xs.length + 1) cap) (xs ++ [r]) ys (mxV pl pm u) _ := ⟨rq, gq, cq, hrq, by rw [g87] at hF; exact hF⟩
                    have hC2 := CR.done (ap := 22) (st := 24) (v := .slice Ay ys.length cy) (W := w9) (p := ⟨(w2.heap.size + 2), 1, none⟩) hI.len (by decide) (by decide) h22 hfin
                    clear hI hall hnot hcl hC
                    refine .inl ⟨wanted_none rfl, ?_⟩
                    unfold Oper.wp
                    go_simp
                    first | refine ⟨_, rfl, fun j u hj hV => ?_, trivial, hC2⟩ | refine ⟨fun j u hj hV => ?_, trivial, hC2⟩ | refine ⟨_, rfl, fun j u hj hV => ?_, hC2⟩ | refine ⟨fun j u hj hV => ?_, hC2⟩ | intro j u hj hV
                    rcases j with _ | _ | _ | _ | _ | _ | _ | _ | _ | _ | _ | _ | _ | _ | _ | _ | _ | _ | _ | _ | _ | _ | _ | _ | _ | j
                    · exact hV
                    · exact hV
                    · exact hV
                    · exact hV
                    · exact hV
                    · exact hV
                    · exact hV
                    · exact hV
                    · exact hV
                    · exact hV
                    · exact hV
                    · exact hV
                    · exact hV
                    · exact hV
                    · exact hV
                    · exact hV
                    · exact hV
                    · exact hV
                    · exact hV
                    · exact hV
                    · exact hV
                    · exact SVa.setC hV hBo _
                    · exact SVy.old hV rfl rfl ((hK.set (i := 1) (by simp) _).2 1 _ rfl).1
                    · exact hV
                    · exact hV
                    · exact hV
                  · simp at hq
                case hend =>
                  intro listed act w8 hI hall
                  obtain ⟨r2, g2, cap2, hr2, hF2⟩ := hI.cls.fin (hall 24 (by decide))
                  have g0 := hI.kept 0 (by kernel_rfl)
                  conv at g0 => rhs; whnf
                  have g1 := hI.kept 1 (by kernel_rfl)
                  conv at g1 => rhs; whnf
                  have g2 := hI.kept 2 (by kernel_rfl)
                  conv at g2 => rhs; whnf
                  have g3 := hI.kept 3 (by kernel_rfl)
                  conv at g3 => rhs; whnf
                  have g4 := hI.kept 4 (by kernel_rfl)
                  conv at g4 => rhs; whnf
                  have g5 : act.tmps[5]?.getD undef = undef := hI.kept 5 (by kernel_rfl)
                  have g6 := hI.kept 6 (by kernel_rfl)
                  conv at g6 => rhs; whnf
                  have g7 := hI.kept 7 (by kernel_rfl)
                  conv at g7 => rhs; whnf
                  have g8 := hI.kept 8 (by kernel_rfl)
                  conv at g8 => rhs; whnf
                  have g10 := hI.kept 10 (by kernel_rfl)
                  conv at g10 => rhs; whnf
                  have g11 := hI.kept 11 (by kernel_rfl)
                  conv at g11 => rhs; whnf
                  have g12 := hI.kept 12 (by kernel_rfl)
                  conv at g12 => rhs; whnf
                  have g13 := hI.kept 13 (by kernel_rfl)
                  conv at g13 => rhs; whnf
                  have g14 := hI.kept 14 (by kernel_rfl)
                  conv at g14 => rhs; whnf
                  have g15 := hI.kept 15 (by kernel_rfl)
                  conv at g15 => rhs; whnf
                  have g16 := hI.kept 16 (by kernel_rfl)
                  conv at g16 => rhs; whnf
                  have g17 := hI.kept 17 (by kernel_rfl)
                  conv at g17 => rhs; whnf
                  have g18 := hI.kept 18 (by kernel_rfl)
                  conv at g18 => rhs; whnf
                  have g19 := hI.kept 19 (by kernel_rfl)
                  conv at g19 => rhs; whnf
                  have g20 := hI.kept 20 (by kernel_rfl)
                  conv at g20 => rhs; whnf
                  have g21 := hI.kept 21 (by kernel_rfl)
                  conv at g21 => rhs; whnf
                  have g22 := hI.kept 22 (by kernel_rfl)
                  conv at g22 => rhs; whnf
                  have g23 := hI.kept 23 (by kernel_rfl)
                  conv at g23 => rhs; whnf
                  have g24 := hI.kept 24 (by kernel_rfl)
                  conv at g24 => rhs; whnf
                  have g25 := hI.kept 25 (by kernel_rfl)
                  conv at g25 => rhs; whnf
                  have g26 := hI.kept 26 (by kernel_rfl)
                  conv at g26 => rhs; whnf
                  have g27 := hI.kept 27 (by kernel_rfl)
                  conv at g27 => rhs; whnf
                  have g28 := hI.kept 28 (by kernel_rfl)
                  conv at g28 => rhs; whnf
                  have g29 := hI.kept 29 (by kernel_rfl)
                  conv at g29 => rhs; whnf
                  have g30 : act.tmps[30]?.getD undef = undef := hI.kept 30 (by kernel_rfl)
                  have g31 := hI.kept 31 (by kernel_rfl)
                  conv at g31 => rhs; whnf
                  have g32 := hI.kept 32 (by kernel_rfl)
                  conv at g32 => rhs; whnf
                  have g33 := hI.kept 33 (by kernel_rfl)
                  conv at g33 => rhs; whnf
                  have g89 : act.tmps[89]?.getD undef = undef := hI.kept 89 (by kernel_rfl)
                  have g90 : act.tmps[90]?.getD undef = undef := hI.kept 90 (by kernel_rfl)
                  have g91 : act.tmps[91]?.getD undef = undef := hI.kept 91 (by kernel_rfl)
                  have g92 : act.tmps[92]?.getD undef = undef := hI.kept 92 (by kernel_rfl)
                  have g9 := hI.kept 9 (by kernel_rfl)
                  conv at g9 => rhs; whnf
                  have hsz : act.tmps.size = 93 := hI.size.trans (by kernel_rfl)
                  have hd := hI.defers
                  clear hI hall
                  obtain ⟨tt, dd⟩ := act
                  simp only at g0 g1 g2 g3 g4 g5 g6 g7 g8 g9 g10 g11 g12 g13 g14 g15 g16 g17 g18 g19 g20 g21 g22 g23 g24 g25 g26 g27 g28 g29 g30 g31 g32 g33 g89 g90 g91 g92 hsz hd
                  subst hd
                  have hl : tt = #[tt[0]?.getD undef, tt[1]?.getD undef, tt[2]?.getD undef, tt[3]?.getD undef, tt[4]?.getD undef, tt[5]?.getD undef, tt[6]?.getD undef, tt[7]?.getD undef, tt[8]?.getD undef, tt[9]?.getD undef, tt[10]?.getD undef, tt[11]?.getD undef, tt[12]?.getD undef, tt[13]?.getD undef, tt[14]?.getD undef, tt[15]?.getD undef, tt[16]?.getD undef, tt[17]?.getD undef, tt[18]?.getD undef, tt[19]?.getD undef, tt[20]?.getD undef, tt[21]?.getD undef, tt[22]?.getD undef, tt[23]?.getD undef, tt[24]?.getD undef, tt[25]?.getD undef, tt[26]?.getD undef, tt[27]?.getD undef, tt[28]?.getD undef, tt[29]?.getD undef, tt[30]?.getD undef, tt[31]?.getD undef, tt[32]?.getD undef, tt[33]?.getD undef, tt[34]?.getD undef, tt[35]?.getD undef, tt[36]?.getD undef, tt[37]?.getD undef, tt[38]?.getD undef, tt[39]?.getD undef, tt[40]?.getD undef, tt[41]?.getD undef, tt[42]?.getD undef, tt[43]?.getD undef, tt[44]?.getD undef, tt[45]?.getD undef, tt[46]?.getD undef, tt[47]?.getD undef, tt[48]?.getD undef, tt[49]?.getD undef, tt[50]?.getD undef, tt[51]?.getD undef, tt[52]?.getD undef, tt[53]?.getD undef, tt[54]?.getD undef, tt[55]?.getD undef, tt[56]?.getD undef, tt[57]?.getD undef, tt[58]?.getD undef, tt[59]?.getD undef, tt[60]?.getD undef, tt[61]?.getD undef, tt[62]?.getD undef, tt[63]?.getD undef, tt[64]?.getD undef, tt[65]?.getD undef, tt[66]?.getD undef, tt[67]?.getD undef, tt[68]?.getD undef, tt[69]?.getD undef, tt[70]?.getD undef, tt[71]?.getD undef, tt[72]?.getD undef, tt[73]?.getD undef, tt[74]?.getD undef, tt[75]?.getD undef, tt[76]?.getD undef, tt[77]?.getD undef, tt[78]?.getD undef, tt[79]?.getD undef, tt[80]?.getD undef, tt[81]?.getD undef, tt[82]?.getD undef, tt[83]?.getD undef, tt[84]?.getD undef, tt[85]?.getD undef, tt[86]?.getD undef, tt[87]?.getD undef, tt[88]?.getD undef, tt[89]?.getD undef, tt[90]?.getD undef, tt[91]?.getD undef, tt[92]?.getD undef] := (arr_lit hsz).trans rfl
                  rw [g0, g1, g2, g3, g4, g5, g6, g7, g8, g9, g10, g11, g12, g13, g14, g15, g16, g17, g18, g19, g20, g21, g22, g23, g24, g25, g26, g27, g28, g29, g30, g31, g32, g33, g89, g90, g91, g92] at hl
                  clear g0 g1 g2 g3 g4 g5 g6 g7 g8 g9 g10 g11 g12 g13 g14 g15 g16 g17 g18 g19 g20 g21 g22 g23 g24 g25 g26 g27 g28 g29 g30 g31 g32 g33 g89 g90 g91 g92 hsz
                  generalize tt[34]?.getD undef = y34 at hl
                  generalize tt[35]?.getD undef = y35 at hl
                  generalize tt[36]?.getD undef = y36 at hl
                  generalize tt[37]?.getD undef = y37 at hl
                  generalize tt[38]?.getD undef = y38 at hl
                  generalize tt[39]?.getD undef = y39 at hl
                  generalize tt[40]?.getD undef = y40 at hl
                  generalize tt[41]?.getD undef = y41 at hl
                  generalize tt[42]?.getD undef = y42 at hl
                  generalize tt[43]?.getD undef = y43 at hl
                  generalize tt[44]?.getD undef = y44 at hl
                  generalize tt[45]?.getD undef = y45 at hl
                  generalize tt[46]?.getD undef = y46 at hl
                  generalize tt[47]?.getD undef = y47 at hl
                  generalize tt[48]?.getD undef = y48 at hl
                  generalize tt[49]?.getD undef = y49 at hl
                  generalize tt[50]?.getD undef = y50 at hl
                  generalize tt[51]?.getD undef = y51 at hl
                  generalize tt[52]?.getD undef = y52 at hl
                  generalize tt[53]?.getD undef = y53 at hl
                  generalize tt[54]?.getD undef = y54 at hl
                  generalize tt[55]?.getD undef = y55 at hl
                  generalize tt[56]?.getD undef = y56 at hl
                  generalize tt[57]?.getD undef = y57 at hl
                  generalize tt[58]?.getD undef = y58 at hl
                  generalize tt[59]?.getD undef = y59 at hl
                  generalize tt[60]?.getD undef = y60 at hl
                  generalize tt[61]?.getD undef = y61 at hl
                  generalize tt[62]?.getD undef = y62 at hl
                  generalize tt[63]?.getD undef = y63 at hl
                  generalize tt[64]?.getD undef = y64 at hl
                  generalize tt[65]?.getD undef = y65 at hl
                  generalize tt[66]?.getD undef = y66 at hl
                  generalize tt[67]?.getD undef = y67 at hl
                  generalize tt[68]?.getD undef = y68 at hl
                  generalize tt[69]?.getD undef = y69 at hl
                  generalize tt[70]?.getD undef = y70 at hl
                  generalize tt[71]?.getD undef = y71 at hl
                  generalize tt[72]?.getD undef = y72 at hl
                  generalize tt[73]?.getD undef = y73 at hl
                  generalize tt[74]?.getD undef = y74 at hl
                  generalize tt[75]?.getD undef = y75 at hl
                  generalize tt[76]?.getD undef = y76 at hl
                  generalize tt[77]?.getD undef = y77 at hl
                  generalize tt[78]?.getD undef = y78 at hl
                  generalize tt[79]?.getD undef = y79 at hl
                  generalize tt[80]?.getD undef = y80 at hl
                  generalize tt[81]?.getD undef = y81 at hl
                  generalize tt[82]?.getD undef = y82 at hl
                  generalize tt[83]?.getD undef = y83 at hl
                  generalize tt[84]?.getD undef = y84 at hl
                  generalize tt[85]?.getD undef = y85 at hl
                  generalize tt[86]?.getD undef = y86 at hl
                  generalize tt[87]?.getD undef = y87 at hl
                  generalize tt[88]?.getD undef = y88 at hl
                  subst hl
                  have HF9 := Lib.hid hF2
                  have HCL9 : Hid (CL (xs ++ [r]) ((mxL a b u).take (k + 1)) ∧ CL (ys ++ [r2]) ((mxL l m u).take (k + 1))) := Lib.hid ⟨by rw [HTX.out.1]; exact HCL.out.1.snoc (HR.out.trans HTX.out.2.symm), by rw [HTY.out.1]; exact HCL.out.2.snoc (hr2.trans HTY.out.2.symm)⟩
                  clear hF2 hr2
                  have hs16 := HS.out.2.1
                  go_wp2
                  go_roundw
                  case rel =>
                    exact ⟨k + 1, _, _, _, _, by omega, by go_num, HF9, HCL9⟩
                  case measure => simp [intOf]; omega
            · have hkk : k = a.length := by omega
              subst hkk
              have HE : Hid (CL xs (mxL a b u) ∧ CL ys (mxL l m u)) := Lib.hid (by
                have h := HCL.out
                rw [List.take_of_length_le (by rw [mxL_length]; omega), List.take_of_length_le (by rw [mxL_length, HS.out.2.2.1]; omega)] at h
                exact h)
              have hx1 : xs ≠ [] := by
                intro e
                have h1 := HE.out.1.1
                rw [e, mxL_length] at h1
                have := HS.out.1
                simp at h1
                omega
              have hy1 : ys ≠ [] := by
                intro e
                have h1 := HE.out.2.1
                rw [e, mxL_length] at h1
                have := HS.out
                simp at h1
                omega
              obtain ⟨A1, A2, c1, c2, g1, g2, e1, e2, ho⟩ := HF.out.owned hx1 hy1
              have HFW : Hid (FewS xs ys) := Lib.hid (by
                have h1 := HE.out.1.1
                have h2 := HE.out.2.1
                rw [mxL_length] at h1 h2
                have := HS.out
                unfold FewS
                omega)
              have HOW := Lib.hid ho
              have f0 := (HF.out.blk.2 0 _ rfl).1
              have f1 := (HF.out.blk.2 1 _ rfl).1
              have LR5 : Hid (BlkL wr (w.heap.size + 2) [.slice none 0 0, .slice none 0 0]) := Lib.hid (R2.out.below HF.out.below)
              have B5 : Hid (Below w.heap.size w wr) := Lib.hid (below_of B2.out B2.out.size HF.out.below)
              injection e1 with q1 q2 q3
              injection e2 with q4 q5 q6
              subst q1 q3 q4 q6
              clear ho hx1 hy1 q2 q5
              go_wp2_with fail
              refine (s_GiveRQ Ax Ay cx cy g1 g2 w2.heap.size xs ys (mxL a b u) (mxL l m u) O _ HOW.out HE.out.1 HE.out.2 HO.out HFW.out).mono ?_
              rintro e w6 ⟨u6, rfl, ⟨Ra, Rb, da, db, ka, kb, rfl, ho⟩, b6⟩
              have B6 : Hid (Below w.heap.size w w6) := Lib.hid (below_of B5.out B5.out.size b6)
              have LR6 : Hid (BlkL w6 (w.heap.size + 2) [.slice none 0 0, .slice none 0 0]) := Lib.hid (LR5.out.below b6)
              have HOW6 := Lib.hid ho
              clear b6 ho
              have p0 := (LR6.out.2 0 _ rfl).1
              have q0 := (LR6.out.2 0 _ rfl).2
              have p1 := (LR6.out.2 1 _ rfl).1
              have q1 := (LR6.out.2 1 _ rfl).2
              go_wp2
              refine bodyPost_ret (v := .tuple #[.agg #[.slice Ra (gLn O (mxL a b u)).length da, .slice Rb (gLn O (mxL l m u)).length db], .bool O]) ?_ rfl ?_
              · simp [results, Try.results8, go_sem, p0, p1]
              · have z2 := Z2.out
                exact ⟨Ra, Rb, da, db, ka, kb, rfl, ((HOW6.out.setR (p := ⟨w.heap.size + 2, 0, none⟩) (by show w.heap.size + 2 < w2.heap.size; omega) _).setR (p := ⟨w.heap.size + 2, 1, none⟩) (by show w.heap.size + 2 < w2.heap.size; omega) _).baseR B2.out.size, ((B6.out).setCell (p := ⟨w.heap.size + 2, 0, none⟩) (by show w.heap.size ≤ w.heap.size + 2; omega) _).setCell (p := ⟨w.heap.size + 2, 1, none⟩) (by show w.heap.size ≤ w.heap.size + 2; omega) _⟩
end Go.Proofs.Ytahbcpjipomcgaa
