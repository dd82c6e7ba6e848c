/- Wakes, losses and speeds in a farm: both sides, put together. No statement is proved here. -/
import Derived.Test.YtmadlabnhjhfiaaWkM
import Derived.Test.YtmadlabnhjhfiaaNear
import Derived.Test.YtmadlabnhjhfiaaFsure
import Derived.Deep.QuietTactic
import Derived.BigQuiet
import Derived.Test.YtmadlabnhjhfiaaMarkR
import Derived.Deep.Cut
import Derived.Test.YtmadlabnhjhfiaaInv6
import Derived.Maps.AppendAt
namespace Go.Proofs.Ytmadlabnhjhfiaa
open Go Go.RowKit
def Sure (op : BinOp) (x y : Nat) : Prop := (∀ w, fopV op .f32 x y w = fop op .f32 x y) ∧ fopN op .f32 x y = 0
theorem sure_bd {op : BinOp} {x y : Nat} {j : Int} (h : Bd .f32 j (fop op .f32 x y)) : Sure op x y := bd_sure h
theorem sure_num {op : BinOp} {x y : Nat} (h : isn .f32 (fop op .f32 x y) = false) : Sure op x y := fop_sure h
/-- a quiet call behind draws that are counted already -/
theorem quietW {P : Program} {f : FuncId} {args : Array Value} {w : World} {a n : Nat} {v : Value} (h : Calls P f args (w.drewN (a + n)) fun e w' => e = .returned v ∧ ∃ m, w' = (w.drewN (a + n)).drewN m) :
    Calls P f args (w.drewN (a + n)) fun e w'' => e = .returned v ∧ ∃ m, w'' = w.drewN (a + m) := by
  refine h.mono ?_
  rintro e w' ⟨he, m, hm⟩
  exact ⟨he, n + m, by rw [hm, World.drewN_drewN, Nat.add_assoc]⟩
/-- what is sure of a wake -/
structure WkS (r p d u v c s : Nat) : Prop where
  m1 : Sure .mul u c
  m2 : Sure .mul v s
  a : Sure .add (fop .mul .f32 u c) (fop .mul .f32 v s)
  m3 : Sure .mul v c
  m4 : Sure .mul u s
  cc : Sure .sub (fop .mul .f32 v c) (fop .mul .f32 u s)
  fa : fin .f32 (wkA u v c s) = true
  fc : fin .f32 (wkC u v c s) = true
  m5 : Sure .mul p (wkA u v c s)
  w : Sure .add r (fop .mul .f32 p (wkA u v c s))
  wn : isn .f32 (wkW r p (wkA u v c s)) = false
  q : gtr32 (wkA u v c s) 0 = true → Sure .quo r (wkW r p (wkA u v c s))
  d2 : Sure .mul 1073741824 d
  k1 : gtr32 (wkA u v c s) 0 = true → Sure .mul (fop .mul .f32 1073741824 d) (fop .quo .f32 r (wkW r p (wkA u v c s)))
  k2 : gtr32 (wkA u v c s) 0 = true → Sure .mul (fop .mul .f32 (fop .mul .f32 1073741824 d) (fop .quo .f32 r (wkW r p (wkA u v c s)))) (fop .quo .f32 r (wkW r p (wkA u v c s)))
theorem some0_posi {p : Nat} (h : posi p = true) : some0 .f32 p := by
  obtain ⟨m, e, hd, h0⟩ := posi_num h
  exact ⟨false, m, e, hd, h0⟩
theorem add_any {r x : Nat} (hr : fin .f32 r = true) (hx : isn .f32 x = false) : isn .f32 (fop .add .f32 r x) = false := by
  cases hd : FloatKind.f32.decode x with
  | nan s f => unfold isn at hx; rw [hd] at hx; cases hx
  | number s m e => exact add_num hr (by unfold fin; rw [hd])
  | infinity s =>
    obtain ⟨t, n, j, dr⟩ := fin_number hr
    have dr' : FloatKind.f32.format.read r = .number t n j := dr
    have hd' : FloatKind.f32.format.read x = .infinity s := hd
    have hb : floatBits .add .f32 r x = some (FloatKind.f32.format.write (.infinity s)) := by
      unfold floatBits Ieee.Format.add
      simp only []
      rw [dr', hd']
      rfl
    unfold fop
    rw [hb, Option.getD_some, isn_canon]
    exact write_not_nan FloatKind.f32.format rfl
theorem wkS_of {r p d u v c s : Nat} (hr : posi r = true) (hp : posi p = true) (hd : within d 0 1056964608 = true) (hu : Bd .f32 18 u) (hv : Bd .f32 18 v) (hc : Bd .f32 65 c) (hs : Bd .f32 65 s) : WkS r p d u v c s := by
  have fr : fin .f32 r = true := posi_fin hr
  have b1 := bd_mul fmt32 hu hc (by decide) (by decide)
  have b2 := bd_mul fmt32 hv hs (by decide) (by decide)
  have b3 := bd_mul fmt32 hv hc (by decide) (by decide)
  have b4 := bd_mul fmt32 hu hs (by decide) (by decide)
  have bA := bd_wkA hu hv hc hs
  have bC := bd_wkC hu hv hc hs
  have fa := bd_fin bA
  have fc := bd_fin bC
  have hm5 : isn .f32 (fop .mul .f32 p (wkA u v c s)) = false := mul_num (some0_posi hp) (isn_of_fin fa)
  have hw : isn .f32 (wkW r p (wkA u v c s)) = false := add_any fr hm5
  have b2d := bd_mul fmt32 bd_two (draw_bd hd) (by decide) (by decide)
  refine ⟨sure_bd b1, sure_bd b2, sure_bd bA, sure_bd b3, sure_bd b4, sure_bd bC, fa, fc, sure_num hm5, sure_num hw, hw, fun hg => sure_bd (wkW_facts hr hp fa hg).2, sure_bd b2d, fun hg => ?_, fun hg => ?_⟩
  · exact sure_bd (bd_mul fmt32 b2d (wkW_facts hr hp fa hg).2 (by decide) (by decide))
  · exact sure_bd (bd_mul fmt32 (bd_mul fmt32 b2d (wkW_facts hr hp fa hg).2 (by decide) (by decide)) (wkW_facts hr hp fa hg).2 (by decide) (by decide))
theorem i_mulSure {x y : Nat} (h : Sure .mul x y) (w : World) : Calls Try.prog 85 #[.float .f32 x, .float .f32 y] w fun e w' => e = .returned (.float .f32 (fop .mul .f32 x y)) ∧ w' = w := by
  refine (i_mulNumbers x y w).mono ?_
  rintro e w' ⟨rfl, rfl⟩
  rw [h.1, h.2]
  exact ⟨rfl, rfl⟩
theorem i_absOf (b : Nat) (hb : fin .f32 b = true) (w : World) :
    Calls Try.prog 167 #[.float .f32 b] w fun e w' => e = .returned (.float .f32 (abs32 b)) ∧ w' = w := by
  obtain ⟨hw, hwn⟩ := wide_sure (not_nan_of_fin hb)
  obtain ⟨-, -, ho, hn⟩ := abs_fin hb
  obtain ⟨hv, hvn⟩ := narrow_sure hn ho
  have hl := wide_lt b
  have HA : Hid (narrow (fabs (wide b)) = abs32 b) := rfl
  clear ho hn hb
  go_enter Try.func167, Try.ntmps167
  go_wp2_with fail
  refine (m_Abs _ _ hl).mono ?_
  rintro e w' ⟨rfl, rfl⟩
  go_wp2
  go_ret
  exact ⟨by rw [← HA.out]; rfl, by first | rfl | simp⟩
set_option maxHeartbeats 16000000 in
set_option maxRecDepth 20000 in
theorem i_wakeAt (X Y : Option Addr) (cx cy : Nat) (fx fy : List Nat) (fr fd fs : Nat) (k : Nat) (x y c s u v : Nat) (w : World) (h : Rs w X Y fx fy) (hn : FewS fx fy) (h1 : k < fx.length) (h2 : k < fy.length) (hx : Sure .sub x (fx.getD k 0)) (hy : Sure .sub y (fy.getD k 0)) (hu : fop .sub .f32 x (fx.getD k 0) = u) (hv : fop .sub .f32 y (fy.getD k 0) = v) (hS : WkS fr fs fd u v c s) :
    Calls Try.prog 111 #[.agg #[.slice X fx.length cx, .slice Y fy.length cy, .float .f32 fr, .float .f32 fd, .float .f32 fs], .int .i64 k, .agg #[.float .f32 x, .float .f32 y], .agg #[.float .f32 c, .float .f32 s]] w fun e w' => e = .returned (.float .f32 (wkV fr fd fs u v c s)) ∧ Below w.heap.size w w' := by
  have HP := Lib.hid h; clear h
  have HS := Lib.hid hS; clear hS
  obtain ⟨w0, hw0⟩ : ∃ z, z = ((w.alloc (.cells #[.slice X fx.length cx, .slice Y fy.length cy, .float .f32 fr, .float .f32 fd, .float .f32 fs] 50)).alloc (.cells #[.float .f32 x, .float .f32 y] 130)).alloc (.cells #[.float .f32 c, .float .f32 s] 132) := ⟨_, rfl⟩
  have KF : Hid (BlkL w0 w.heap.size [.slice X fx.length cx, .slice Y fy.length cy, .float .f32 fr, .float .f32 fd, .float .f32 fs]) := Lib.hid (by rw [hw0]; exact ((blkL_at w #[.slice X fx.length cx, .slice Y fy.length cy, .float .f32 fr, .float .f32 fd, .float .f32 fs] _ rfl).alloc _).alloc _)
  have KA : Hid (BlkL w0 (w.heap.size + 1) [.float .f32 x, .float .f32 y]) := Lib.hid (by rw [hw0]; exact (blkL_at (w.alloc _) #[.float .f32 x, .float .f32 y] _ (by simp)).alloc _)
  have KT : Hid (BlkL w0 (w.heap.size + 2) [.float .f32 c, .float .f32 s]) := Lib.hid (by rw [hw0]; exact blkL_at ((w.alloc _).alloc _) #[.float .f32 c, .float .f32 s] _ (by simp))
  have B0 : Hid (Below w.heap.size w w0) := Lib.hid (by rw [hw0]; exact (((Below.refl _ _).alloc (Nat.le_refl _) _).alloc (by simp) _).alloc (by simp; omega) _)
  obtain ⟨k0, k1, k2, k3, k4⟩ := KF.out.five
  go_enter Try.func111, Try.ntmps111
  go_wp2_with fail
  rw [← hw0]
  clear hw0
  refine (i_placeOf X Y cx cy fx fy fr fd fs k _ (HP.out.below B0.out) hn h1 h2).mono ?_
  rintro e w1 ⟨rfl, b1⟩
  clear k0 k1 k2 k3 k4
  obtain ⟨px, hpx⟩ : ∃ z, z = fx.getD k 0 := ⟨_, rfl⟩
  obtain ⟨py, hpy⟩ : ∃ z, z = fy.getD k 0 := ⟨_, rfl⟩
  rw [← hpx] at hx hu ⊢
  rw [← hpy] at hy hv ⊢
  clear hpx hpy
  have x1 : ∀ w, fopV .sub .f32 x px w = u := fun w => by rw [hx.1, hu]
  have x2 := hx.2
  have y1 : ∀ w, fopV .sub .f32 y py w = v := fun w => by rw [hy.1, hv]
  have y2 := hy.2
  clear hx hy hu hv
  obtain ⟨w2, hw2⟩ : ∃ z, z = w1.alloc (.cells #[.float .f32 px, .float .f32 py] 130) := ⟨_, rfl⟩
  have b2 : Below w1.heap.size w1 w2 := by rw [hw2]; exact (Below.refl _ _).alloc (Nat.le_refl _) _
  have LF : Hid (BlkL w2 w.heap.size [.slice X fx.length cx, .slice Y fy.length cy, .float .f32 fr, .float .f32 fd, .float .f32 fs]) := Lib.hid ((KF.out.below b1).below b2)
  have LA : Hid (BlkL w2 (w.heap.size + 1) [.float .f32 x, .float .f32 y]) := Lib.hid ((KA.out.below b1).below b2)
  have LT : Hid (BlkL w2 (w.heap.size + 2) [.float .f32 c, .float .f32 s]) := Lib.hid ((KT.out.below b1).below b2)
  have LP : Hid (BlkL w2 w1.heap.size [.float .f32 px, .float .f32 py]) := Lib.hid (by rw [hw2]; exact blkL_at w1 #[.float .f32 px, .float .f32 py] _ rfl)
  have B2 : Hid (Below w.heap.size w w2) := Lib.hid (below_of B0.out B0.out.size (below_of b1 b1.size b2))
  clear b1 b2 KF KA KT B0
  obtain ⟨M1, e1⟩ : ∃ z, z = fop .mul .f32 u c := ⟨_, rfl⟩
  obtain ⟨M2, e2⟩ : ∃ z, z = fop .mul .f32 v s := ⟨_, rfl⟩
  obtain ⟨M3, e3⟩ : ∃ z, z = fop .mul .f32 v c := ⟨_, rfl⟩
  obtain ⟨M4, e4⟩ : ∃ z, z = fop .mul .f32 u s := ⟨_, rfl⟩
  obtain ⟨A, eA⟩ : ∃ z, z = wkA u v c s := ⟨_, rfl⟩
  obtain ⟨C, eC⟩ : ∃ z, z = wkC u v c s := ⟨_, rfl⟩
  obtain ⟨M5, e5⟩ : ∃ z, z = fop .mul .f32 fs A := ⟨_, rfl⟩
  obtain ⟨W, eW⟩ : ∃ z, z = wkW fr fs A := ⟨_, rfl⟩
  have C1 : Hid (∀ w, Calls Try.prog 85 #[.float .f32 u, .float .f32 c] w fun e w' => e = .returned (.float .f32 M1) ∧ w' = w) := Lib.hid (fun w => by rw [e1]; exact i_mulSure HS.out.m1 w)
  have C2 : Hid (∀ w, Calls Try.prog 85 #[.float .f32 v, .float .f32 s] w fun e w' => e = .returned (.float .f32 M2) ∧ w' = w) := Lib.hid (fun w => by rw [e2]; exact i_mulSure HS.out.m2 w)
  have C3 : Hid (∀ w, Calls Try.prog 85 #[.float .f32 v, .float .f32 c] w fun e w' => e = .returned (.float .f32 M3) ∧ w' = w) := Lib.hid (fun w => by rw [e3]; exact i_mulSure HS.out.m3 w)
  have C4 : Hid (∀ w, Calls Try.prog 85 #[.float .f32 u, .float .f32 s] w fun e w' => e = .returned (.float .f32 M4) ∧ w' = w) := Lib.hid (fun w => by rw [e4]; exact i_mulSure HS.out.m4 w)
  have C5 : Hid (∀ w, Calls Try.prog 85 #[.float .f32 fs, .float .f32 A] w fun e w' => e = .returned (.float .f32 M5) ∧ w' = w) := Lib.hid (fun w => by rw [e5]; exact i_mulSure (by rw [eA]; exact HS.out.m5) w)
  have C6 : Hid (∀ w, Calls Try.prog 167 #[.float .f32 C] w fun e w' => e = .returned (.float .f32 (abs32 C)) ∧ w' = w) := Lib.hid (fun w => by rw [eC]; exact i_absOf _ HS.out.fc w)
  have a1 : ∀ w, fopV .add .f32 M1 M2 w = A := fun w => by rw [e1, e2, HS.out.a.1, eA]; rfl
  have a2 : fopN .add .f32 M1 M2 = 0 := by rw [e1, e2]; exact HS.out.a.2
  have c1 : ∀ w, fopV .sub .f32 M3 M4 w = C := fun w => by rw [e3, e4, HS.out.cc.1, eC]; rfl
  have c2 : fopN .sub .f32 M3 M4 = 0 := by rw [e3, e4]; exact HS.out.cc.2
  have d1 : ∀ w, fopV .add .f32 fr M5 w = W := fun w => by rw [e5, eA, HS.out.w.1, eW, eA]; rfl
  have d2 : fopN .add .f32 fr M5 = 0 := by rw [e5, eA]; exact HS.out.w.2
  have HVB : Hid (wkV fr fd fs u v c s = if wkB A C W then 0 else wkK fd (fop .quo .f32 fr W)) := Lib.hid (by unfold wkV; rw [← eA, ← eC, ← eW])
  have HGA : Hid (gtr32 A 0 = !leq32 A 0) := Lib.hid (by rw [eA]; exact gtr_not_leq (isn_of_fin HS.out.fa) (isn_of_fin fin_zero))
  have HQS : Hid (gtr32 A 0 = true → Sure .quo fr W ∧ Sure .mul 1073741824 fd ∧ Sure .mul (fop .mul .f32 1073741824 fd) (fop .quo .f32 fr W) ∧ Sure .mul (fop .mul .f32 (fop .mul .f32 1073741824 fd) (fop .quo .f32 fr W)) (fop .quo .f32 fr W)) := Lib.hid (fun hg => by
    rw [eA] at hg
    rw [eW, eA]
    exact ⟨HS.out.q hg, HS.out.d2, HS.out.k1 hg, HS.out.k2 hg⟩)
  clear e1 e2 e3 e4 e5 eA eC eW HS
  obtain ⟨k0, k1, k2, k3, k4⟩ := LF.out.five
  have l0 := (LA.out.2 0 _ rfl).1
  have l1 := (LA.out.2 1 _ rfl).1
  have t0 := (LT.out.2 0 _ rfl).1
  have t1 := (LT.out.2 1 _ rfl).1
  have p0 := (LP.out.2 0 _ rfl).1
  have p1 := (LP.out.2 1 _ rfl).1
  clear h1 h2
  go_wp2
  rw [← hw2]
  clear hw2
  go_quiet (fail)
  go_wp2
  go_quiet (first | (go_at_call 85; first | (refine quietW (v := .float .f32 M1) ((C1.out _).mono ?_); rintro e w' ⟨rfl, rfl⟩; exact ⟨rfl, 0, rfl⟩) | (refine quietW (v := .float .f32 M2) ((C2.out _).mono ?_); rintro e w' ⟨rfl, rfl⟩; exact ⟨rfl, 0, rfl⟩)))
  go_wp2
  go_quiet (first | (go_at_call 85; first | (refine quietW (v := .float .f32 M3) ((C3.out _).mono ?_); rintro e w' ⟨rfl, rfl⟩; exact ⟨rfl, 0, rfl⟩) | (refine quietW (v := .float .f32 M4) ((C4.out _).mono ?_); rintro e w' ⟨rfl, rfl⟩; exact ⟨rfl, 0, rfl⟩)) | (go_at_call 167; refine quietW (v := .float .f32 (abs32 C)) ((C6.out _).mono ?_); rintro e w' ⟨rfl, rfl⟩; exact ⟨rfl, 0, rfl⟩))
  go_wp2
  go_quiet (first | (go_at_call 85; first | (refine quietW (v := .float .f32 M5) ((C5.out _).mono ?_); rintro e w' ⟨rfl, rfl⟩; exact ⟨rfl, 0, rfl⟩)))
  cases hB1 : leq32 A 0
  · cases hB2 : gtr32 (abs32 C) W
    · have HV : Hid (wkV fr fd fs u v c s = wkK fd (fop .quo .f32 fr W)) := Lib.hid (by rw [HVB.out]; unfold wkB; rw [hB1, hB2]; rfl)
      obtain ⟨⟨q1, q2⟩, ⟨r1, r2⟩, ⟨g1, g2⟩, ⟨j1, j2⟩⟩ := HQS.out (by rw [HGA.out, hB1]; rfl)
      have HK : Hid (wkK fd (fop .quo .f32 fr W) = fop .mul .f32 (fop .mul .f32 (fop .mul .f32 1073741824 fd) (fop .quo .f32 fr W)) (fop .quo .f32 fr W)) := Lib.hid (by unfold wkK; rw [bd_canon bd_two])
      unfold leq32 at hB1
      unfold gtr32 at hB2
      generalize fop .quo .f32 fr W = Q at *
      generalize fop .mul .f32 1073741824 fd = D2 at *
      generalize fop .mul .f32 D2 Q = D3 at *
      clear HQS HGA HVB
      go_wp2
      go_ret
      exact ⟨by rw [HV.out, HK.out]; rfl, below_draws B2.out _⟩
    · have HV : Hid (wkV fr fd fs u v c s = 0) := Lib.hid (by rw [HVB.out]; unfold wkB; rw [hB1, hB2]; rfl)
      unfold leq32 at hB1
      unfold gtr32 at hB2
      clear HQS HGA HVB
      go_wp2
      go_ret
      exact ⟨by rw [HV.out]; rfl, below_draws B2.out _⟩
  · have HV : Hid (wkV fr fd fs u v c s = 0) := Lib.hid (by rw [HVB.out]; unfold wkB; rw [hB1]; rfl)
    unfold leq32 at hB1
    clear HQS HGA HVB
    go_wp2
    go_ret
    exact ⟨by rw [HV.out]; rfl, below_draws B2.out _⟩
end Go.Proofs.Ytmadlabnhjhfiaa
namespace Go.Proofs.Ytmadlabnhjhfiaa
open Go Go.RowKit
def wkQ (fx fy : List Nat) (fr fd fs x y c s k : Nat) : Nat := wkV fr fd fs (fop .sub .f32 x (fx.getD k 0)) (fop .sub .f32 y (fy.getD k 0)) c s
def sqL (fx fy : List Nat) (fr fd fs x y c s : Nat) : List Nat := (List.range fx.length).map fun k => fop .mul .f32 (wkQ fx fy fr fd fs x y c s k) (wkQ fx fy fr fd fs x y c s k)
theorem sqL_length (fx fy : List Nat) (fr fd fs x y c s : Nat) : (sqL fx fy fr fd fs x y c s).length = fx.length := by simp [sqL]
theorem sqL_at {fx fy : List Nat} {fr fd fs x y c s k : Nat} (h : k < fx.length) : (sqL fx fy fr fd fs x y c s).getD k 0 = fop .mul .f32 (wkQ fx fy fr fd fs x y c s k) (wkQ fx fy fr fd fs x y c s k) := by simp [sqL, List.getD, h]
/-- a place at which all is sure -/
structure LosOk (fx fy : List Nat) (fr fd fs x y c s : Nat) : Prop where
  n : fx.length ≤ 12
  e : fy.length = fx.length
  d : ∀ k, k < fx.length → Sure .sub x (fx.getD k 0) ∧ Sure .sub y (fy.getD k 0) ∧ Bd .f32 18 (fop .sub .f32 x (fx.getD k 0)) ∧ Bd .f32 18 (fop .sub .f32 y (fy.getD k 0))
  r : posi fr = true
  p : posi fs = true
  w : within fd 0 1056964608 = true
  c : Bd .f32 65 c
  s : Bd .f32 65 s
theorem LosOk.wk {fx fy : List Nat} {fr fd fs x y c s : Nat} (h : LosOk fx fy fr fd fs x y c s) {k : Nat} (hk : k < fx.length) : WkS fr fs fd (fop .sub .f32 x (fx.getD k 0)) (fop .sub .f32 y (fy.getD k 0)) c s :=
  wkS_of h.r h.p h.w (h.d k hk).2.2.1 (h.d k hk).2.2.2 h.c h.s
theorem LosOk.bd {fx fy : List Nat} {fr fd fs x y c s : Nat} (h : LosOk fx fy fr fd fs x y c s) {k : Nat} (hk : k < fx.length) : Bd .f32 51 (wkQ fx fy fr fd fs x y c s k) :=
  wkV_bd h.r h.p h.w (h.d k hk).2.2.1 (h.d k hk).2.2.2 h.c h.s
theorem LosOk.sq {fx fy : List Nat} {fr fd fs x y c s : Nat} (h : LosOk fx fy fr fd fs x y c s) {k : Nat} (hk : k < fx.length) : BdP .f32 102 (fop .mul .f32 (wkQ fx fy fr fd fs x y c s k) (wkQ fx fy fr fd fs x y c s k)) := bdp_sq (h.bd hk) (by decide) (by decide)
theorem LosOk.sum {fx fy : List Nat} {fr fd fs x y c s : Nat} (h : LosOk fx fy fr fd fs x y c s) : ∀ k : Nat, k ≤ fx.length → BdP .f32 (102 + (k : Int)) (sumK (sqL fx fy fr fd fs x y c s) k) := by
  intro k
  induction k with
  | zero => intro _; exact ⟨0, -149, zero_decode, le2_zero ..⟩
  | succ k ih =>
    intro hk
    have hq := h.sq (show k < fx.length by omega)
    simp only [sumK]
    rw [sqL_at (show k < fx.length by omega), bd_canon (bdp_bd hq)]
    have hn := h.n
    have := bdp_plus (ih (by omega)) (bdp_mono' hq (show (102 : Int) ≤ 102 + (k : Int) by omega)) (by omega) (by omega)
    rw [show (102 : Int) + ((k + 1 : Nat) : Int) = 102 + (k : Int) + 1 by omega]
    exact this
def losR (fx fy : List Nat) (fr fd fs x y c s : Nat) : Nat := canon .f32 (rootF (sumK (sqL fx fy fr fd fs x y c s) fx.length))
def losV (fx fy : List Nat) (fr fd fs x y c s : Nat) : Nat := if gtr32 (losR fx fy fr fd fs x y c s) 1065353216 then 1065353216 else losR fx fy fr fd fs x y c s
theorem LosOk.root {fx fy : List Nat} {fr fd fs x y c s : Nat} (h : LosOk fx fy fr fd fs x y c s) : BdP .f32 57 (losR fx fy fr fd fs x y c s) :=
  root_bdp (j := 57) (bdp_mono' (h.sum _ (Nat.le_refl _)) (by have := h.n; omega)) (by decide) (by decide)
theorem run_min_gt {P : Program} {x y : Nat} (h : FloatKind.f32.format.order x y = some .gt) (ts : Array TypeId) (t : TypeId) (w : World) : (Builtin.min_ ts t #[.float .f32 x, .float .f32 y]).run P w = .ok (.float .f32 y) w := by
  simp [Builtin.min_, Builtin.min2, h]
theorem run_min_lt {P : Program} {x y : Nat} (h : FloatKind.f32.format.order x y = some .lt) (ts : Array TypeId) (t : TypeId) (w : World) : (Builtin.min_ ts t #[.float .f32 x, .float .f32 y]).run P w = .ok (.float .f32 x) w := by
  simp [Builtin.min_, Builtin.min2, h]
set_option maxHeartbeats 4000000 in
theorem i_losAt1 (X Y : Option Addr) (cx cy : Nat) (fx fy : List Nat) (fr fd fs : Nat) (B1 B2 B3 k x y c s : Nat) (w : World) (h : Rs w X Y fx fy) (hn : FewS fx fy) (hL : LosOk fx fy fr fd fs x y c s) (hk : k < fx.length) (L1 : BlkL w B1 [.slice X fx.length cx, .slice Y fy.length cy, .float .f32 fr, .float .f32 fd, .float .f32 fs]) (L2 : BlkL w B2 [.float .f32 x, .float .f32 y]) (L3 : BlkL w B3 [.float .f32 c, .float .f32 s]) :
    Calls Try.prog 169 #[.int .i64 k, .pointer (some ⟨B1, 0, none⟩), .pointer (some ⟨B2, 0, none⟩), .pointer (some ⟨B3, 0, none⟩)] w fun e w' => e = .returned (.float .f32 (fop .mul .f32 (wkQ fx fy fr fd fs x y c s k) (wkQ fx fy fr fd fs x y c s k))) ∧ Below w.heap.size w w' := by
  have HE := Lib.hid (i_wakeAt X Y cx cy fx fy fr fd fs k x y c s _ _ w h hn hk (by rw [hL.e]; exact hk) (hL.d k hk).1 (hL.d k hk).2.1 rfl rfl (hL.wk hk))
  have HM : Hid (Sure .mul (wkQ fx fy fr fd fs x y c s k) (wkQ fx fy fr fd fs x y c s k)) := Lib.hid (sure_bd (bdp_bd (hL.sq hk)))
  obtain ⟨k0, k1, k2, k3, k4⟩ := L1.five
  obtain ⟨l0, l1⟩ := L2.two
  obtain ⟨t0, t1⟩ := L3.two
  clear h hL L1 L2 L3
  have HQ : Hid (wkQ fx fy fr fd fs x y c s k = wkV fr fd fs (fop .sub .f32 x (fx.getD k 0)) (fop .sub .f32 y (fy.getD k 0)) c s) := Lib.hid rfl
  rw [← HQ.out] at HE
  clear HQ
  generalize wkQ fx fy fr fd fs x y c s k = q at *
  go_enter Try.func169, Try.ntmps169
  go_wp2_with fail
  refine HE.out.mono ?_
  rintro e w1 ⟨rfl, b1⟩
  have B := Lib.hid b1
  clear b1 HE k0 k1 k2 k3 k4 l0 l1 t0 t1
  go_wp2_with fail
  refine (i_mulSure HM.out _).mono ?_
  rintro e w2 ⟨rfl, hw⟩
  rw [hw]
  go_wp2
  go_ret
  exact ⟨rfl, B.out⟩
end Go.Proofs.Ytmadlabnhjhfiaa
namespace Go.Proofs.Ytmadlabnhjhfiaa
open Go Go.RowKit
theorem exact_of {r c : Nat} (h : canon .f32 r = c) (hc : Bd .f32 65 c) : r = c := by
  have hn : isn .f32 r = false := by rw [← isn_canon, h]; exact isn_of_fin (bd_fin hc)
  rw [canon_of_not hn] at h
  exact h
theorem siz_order {C W : Nat} (hC : fin .f32 C = true) : FloatKind.f32.format.order (siz C) W = FloatKind.f32.format.order (abs32 C) W := by
  have h : FloatKind.f32.format.read (siz C) = FloatKind.f32.format.read (abs32 C) := siz_decode hC
  unfold Ieee.Format.order
  rw [h]
set_option maxHeartbeats 16000000 in
set_option maxRecDepth 20000 in
theorem s_l06Wake (X Y : Option Addr) (cx cy : Nat) (fx fy : List Nat) (fr fd fs : Nat) (B k x y t c s u v : Nat) (w : World) (h : Rs w X Y fx fy) (hn : FewS fx fy) (hk : BlkL w B [.slice X fx.length cx, .slice Y fy.length cy, .float .f32 fr, .float .f32 fd, .float .f32 fs]) (h1 : k < fx.length) (h2 : k < fy.length) (hx : Sure .sub x (fx.getD k 0)) (hy : Sure .sub y (fy.getD k 0)) (hu : fop .sub .f32 x (fx.getD k 0) = u) (hv : fop .sub .f32 y (fy.getD k 0) = v)
    (hcb : Bd .f32 65 c) (hsb : Bd .f32 65 s) (hc : cosT t = c) (hs : sinC t = s) (hS : WkS fr fs fd u v c s) :
    Calls Try.prog 108 #[.pointer (some ⟨B, 0, none⟩), .int .i64 k, .float .f32 x, .float .f32 y, .float .f32 t] w fun e w' => e = .returned (.float .f32 (wkV fr fd fs u v c s)) ∧ ∃ n, w' = w.drewN n := by
  obtain ⟨b, off, rfl, hb, hc1⟩ := h.1.at_ h1
  obtain ⟨b', off', rfl, hb', hc2⟩ := h.2.at_ h2
  clear h hb hb'
  have HS := Lib.hid hS; clear hS
  obtain ⟨px, hpx⟩ : ∃ z, z = fx.getD k 0 := ⟨_, rfl⟩
  obtain ⟨py, hpy⟩ : ∃ z, z = fy.getD k 0 := ⟨_, rfl⟩
  rw [← hpx] at hx hu hc1
  rw [← hpy] at hy hv hc2
  clear hpx hpy
  have x1 : ∀ w, fopV .sub .f32 x px w = u := fun w => by rw [hx.1, hu]
  have x2 := hx.2
  have y1 : ∀ w, fopV .sub .f32 y py w = v := fun w => by rw [hy.1, hv]
  have y2 := hy.2
  clear hx hy hu hv
  obtain ⟨M1, e1⟩ : ∃ z, z = fop .mul .f32 u c := ⟨_, rfl⟩
  obtain ⟨M2, e2⟩ : ∃ z, z = fop .mul .f32 v s := ⟨_, rfl⟩
  obtain ⟨M3, e3⟩ : ∃ z, z = fop .mul .f32 v c := ⟨_, rfl⟩
  obtain ⟨M4, e4⟩ : ∃ z, z = fop .mul .f32 u s := ⟨_, rfl⟩
  obtain ⟨A, eA⟩ : ∃ z, z = wkA u v c s := ⟨_, rfl⟩
  obtain ⟨C, eC⟩ : ∃ z, z = wkC u v c s := ⟨_, rfl⟩
  obtain ⟨M5, e5⟩ : ∃ z, z = fop .mul .f32 fs A := ⟨_, rfl⟩
  obtain ⟨W, eW⟩ : ∃ z, z = wkW fr fs A := ⟨_, rfl⟩
  have m11 : ∀ w, fopV .mul .f32 u c w = M1 := fun w => by rw [e1, HS.out.m1.1]
  have m12 := HS.out.m1.2
  have m21 : ∀ w, fopV .mul .f32 v s w = M2 := fun w => by rw [e2, HS.out.m2.1]
  have m22 := HS.out.m2.2
  have m31 : ∀ w, fopV .mul .f32 v c w = M3 := fun w => by rw [e3, HS.out.m3.1]
  have m32 := HS.out.m3.2
  have m41 : ∀ w, fopV .mul .f32 u s w = M4 := fun w => by rw [e4, HS.out.m4.1]
  have m42 := HS.out.m4.2
  have m51 : ∀ w, fopV .mul .f32 fs A w = M5 := fun w => by rw [e5, eA, HS.out.m5.1]
  have m52 : fopN .mul .f32 fs A = 0 := by rw [eA]; exact HS.out.m5.2
  have a1 : ∀ w, fopV .add .f32 M1 M2 w = A := fun w => by rw [e1, e2, HS.out.a.1, eA]; rfl
  have a2 : fopN .add .f32 M1 M2 = 0 := by rw [e1, e2]; exact HS.out.a.2
  have c1 : ∀ w, fopV .sub .f32 M3 M4 w = C := fun w => by rw [e3, e4, HS.out.cc.1, eC]; rfl
  have c2 : fopN .sub .f32 M3 M4 = 0 := by rw [e3, e4]; exact HS.out.cc.2
  have d1 : ∀ w, fopV .add .f32 fr M5 w = W := fun w => by rw [e5, eA, HS.out.w.1, eW, eA]; rfl
  have d2 : fopN .add .f32 fr M5 = 0 := by rw [e5, eA]; exact HS.out.w.2
  have hfC : fin .f32 C = true := by rw [eC]; exact HS.out.fc
  obtain ⟨z1, z2⟩ := fop_sure (op := .sub) (sub_num fin_zero hfC)
  have HSO : Hid (FloatKind.f32.format.order (siz C) W = FloatKind.f32.format.order (abs32 C) W) := Lib.hid (siz_order hfC)
  have HVB : Hid (wkV fr fd fs u v c s = if wkB A C W then 0 else wkK fd (fop .quo .f32 fr W)) := Lib.hid (by unfold wkV; rw [← eA, ← eC, ← eW])
  have HGA : Hid (gtr32 A 0 = !leq32 A 0) := Lib.hid (by rw [eA]; exact gtr_not_leq (isn_of_fin HS.out.fa) (isn_of_fin fin_zero))
  have HGW : Hid (gtr32 (abs32 C) W = !leq32 (abs32 C) W) := Lib.hid (gtr_not_leq (isn_of_fin (abs_fin hfC).1) (by rw [eW, eA]; exact HS.out.wn))
  have HQS : Hid (gtr32 A 0 = true → Sure .quo fr W ∧ Sure .mul 1073741824 fd ∧ Sure .mul (fop .mul .f32 1073741824 fd) (fop .quo .f32 fr W) ∧ Sure .mul (fop .mul .f32 (fop .mul .f32 1073741824 fd) (fop .quo .f32 fr W)) (fop .quo .f32 fr W)) := Lib.hid (fun hg => by
    rw [eA] at hg
    rw [eW, eA]
    exact ⟨HS.out.q hg, HS.out.d2, HS.out.k1 hg, HS.out.k2 hg⟩)
  clear e1 e2 e3 e4 e5 eA eC eW HS
  obtain ⟨k0, k1, k2, k3, k4⟩ := hk.five
  have HB := Lib.hid (And.intro hcb hsb)
  have HC := Lib.hid (And.intro hc hs)
  clear hcb hsb hc hs
  have HSZ : Hid (siz C = bif leq32 C 0 then fop .sub .f32 0 C else C) := Lib.hid rfl
  have HCS : Hid (∀ z, canon .f32 z = fop .add .f32 (canon .f32 t) (canon .f32 1048576000) → ∀ r, canon .f32 r = canon .f32 (sinT (canon .f32 z)) → r = c) := Lib.hid (fun z hz r hr => exact_of (by rw [hr, hz]; exact HC.out.1) HB.out.1)
  have HSS : Hid (∀ r, canon .f32 r = canon .f32 (sinT (canon .f32 t)) → r = s) := Lib.hid (fun r hr => exact_of (by rw [hr]; exact HC.out.2) HB.out.2)
  go_enter Try.func108, Try.ntmps108
  go_wp2_with fail
  refine (s_l01Sine _ _).mono ?_
  rintro e w1 ⟨r, n1, rfl, hr, hw1⟩
  obtain rfl := HCS.out _ (canon_fopV ..) r hr
  clear hr
  obtain ⟨n, hn1⟩ : ∃ n, w1 = w.drewN n := ⟨_, by rw [hw1]; first | rfl | exact World.drewN_drewN ..⟩
  subst hn1
  clear hw1
  go_wp2_with fail
  refine (s_l01Sine _ _).mono ?_
  rintro e w1 ⟨r', n2, rfl, hr, hw1⟩
  obtain rfl := HSS.out r' hr
  clear hr
  obtain ⟨n', hn1⟩ : ∃ n', w1 = w.drewN n' := ⟨_, by rw [hw1]; first | rfl | exact World.drewN_drewN ..⟩
  subst hn1
  clear hw1
  cases hB0 : leq32 C 0
  · cases hB1 : leq32 A 0
    · cases hB2 : leq32 (abs32 C) W
      · have HZ : Hid (siz C = C) := Lib.hid (by rw [HSZ.out, hB0]; rfl)
        have hg := HGA.out
        rw [hB1] at hg
        unfold gtr32 at hg
        have hl : leq32 C W = false := by rw [← hB2]; unfold leq32; rw [← HSO.out, HZ.out]
        unfold leq32 at hl
        have HV : Hid (wkV fr fd fs u v _ _ = 0) := Lib.hid (by rw [HVB.out]; unfold wkB; rw [hB1, HGW.out, hB2]; rfl)
        unfold leq32 at hB0
        clear HQS HGA HGW HVB HSO HSZ HZ
        go_wp2
        go_quiet (fail)
        go_wp2
        go_ret
        exact ⟨by rw [HV.out]; rfl, _, rfl⟩
      · have HZ : Hid (siz C = C) := Lib.hid (by rw [HSZ.out, hB0]; rfl)
        have hg := HGA.out
        rw [hB1] at hg
        unfold gtr32 at hg
        have hl : leq32 C W = true := by rw [← hB2]; unfold leq32; rw [← HSO.out, HZ.out]
        unfold leq32 at hl
        have HV : Hid (wkV fr fd fs u v _ _ = wkK fd (fop .quo .f32 fr W)) := Lib.hid (by rw [HVB.out]; unfold wkB; rw [hB1, HGW.out, hB2]; rfl)
        obtain ⟨⟨q1, q2⟩, ⟨r1, r2⟩, ⟨g1, g2⟩, ⟨j1, j2⟩⟩ := HQS.out (by rw [HGA.out, hB1]; rfl)
        have HK : Hid (wkK fd (fop .quo .f32 fr W) = fop .mul .f32 (fop .mul .f32 (fop .mul .f32 1073741824 fd) (fop .quo .f32 fr W)) (fop .quo .f32 fr W)) := Lib.hid (by unfold wkK; rw [bd_canon bd_two])
        generalize fop .quo .f32 fr W = Q at *
        generalize fop .mul .f32 1073741824 fd = D2 at *
        generalize fop .mul .f32 D2 Q = D3 at *
        unfold leq32 at hB0
        clear HQS HGA HGW HVB HSO HSZ HZ
        go_wp2
        go_quiet (fail)
        go_wp2
        go_ret
        exact ⟨by rw [HV.out, HK.out]; rfl, _, rfl⟩
    · have HZ : Hid (siz C = C) := Lib.hid (by rw [HSZ.out, hB0]; rfl)
      have hg := HGA.out
      rw [hB1] at hg
      unfold gtr32 at hg
      have HV : Hid (wkV fr fd fs u v _ _ = 0) := Lib.hid (by rw [HVB.out]; unfold wkB; rw [hB1]; rfl)
      unfold leq32 at hB0
      clear HQS HGA HGW HVB HSO HSZ HZ
      go_wp2
      go_quiet (fail)
      go_wp2
      go_ret
      exact ⟨by rw [HV.out]; rfl, _, rfl⟩
  · cases hB1 : leq32 A 0
    · cases hB2 : leq32 (abs32 C) W
      · have HZ : Hid (siz C = fop .sub .f32 0 C) := Lib.hid (by rw [HSZ.out, hB0]; rfl)
        rw [← HZ.out] at z1
        have hg := HGA.out
        rw [hB1] at hg
        unfold gtr32 at hg
        have hl : leq32 (siz C) W = false := by rw [← hB2]; unfold leq32; rw [HSO.out]
        unfold leq32 at hl
        have HV : Hid (wkV fr fd fs u v _ _ = 0) := Lib.hid (by rw [HVB.out]; unfold wkB; rw [hB1, HGW.out, hB2]; rfl)
        unfold leq32 at hB0
        generalize siz C = Cx at *
        clear HQS HGA HGW HVB HSO HSZ HZ
        go_wp2
        go_quiet (fail)
        go_wp2
        go_ret
        exact ⟨by rw [HV.out]; rfl, _, rfl⟩
      · have HZ : Hid (siz C = fop .sub .f32 0 C) := Lib.hid (by rw [HSZ.out, hB0]; rfl)
        rw [← HZ.out] at z1
        have hg := HGA.out
        rw [hB1] at hg
        unfold gtr32 at hg
        have hl : leq32 (siz C) W = true := by rw [← hB2]; unfold leq32; rw [HSO.out]
        unfold leq32 at hl
        have HV : Hid (wkV fr fd fs u v _ _ = wkK fd (fop .quo .f32 fr W)) := Lib.hid (by rw [HVB.out]; unfold wkB; rw [hB1, HGW.out, hB2]; rfl)
        obtain ⟨⟨q1, q2⟩, ⟨r1, r2⟩, ⟨g1, g2⟩, ⟨j1, j2⟩⟩ := HQS.out (by rw [HGA.out, hB1]; rfl)
        have HK : Hid (wkK fd (fop .quo .f32 fr W) = fop .mul .f32 (fop .mul .f32 (fop .mul .f32 1073741824 fd) (fop .quo .f32 fr W)) (fop .quo .f32 fr W)) := Lib.hid (by unfold wkK; rw [bd_canon bd_two])
        generalize fop .quo .f32 fr W = Q at *
        generalize fop .mul .f32 1073741824 fd = D2 at *
        generalize fop .mul .f32 D2 Q = D3 at *
        unfold leq32 at hB0
        generalize siz C = Cx at *
        clear HQS HGA HGW HVB HSO HSZ HZ
        go_wp2
        go_quiet (fail)
        go_wp2
        go_ret
        exact ⟨by rw [HV.out, HK.out]; rfl, _, rfl⟩
    · have HZ : Hid (siz C = fop .sub .f32 0 C) := Lib.hid (by rw [HSZ.out, hB0]; rfl)
      rw [← HZ.out] at z1
      have hg := HGA.out
      rw [hB1] at hg
      unfold gtr32 at hg
      have HV : Hid (wkV fr fd fs u v _ _ = 0) := Lib.hid (by rw [HVB.out]; unfold wkB; rw [hB1]; rfl)
      unfold leq32 at hB0
      generalize siz C = Cx at *
      clear HQS HGA HGW HVB HSO HSZ HZ
      go_wp2
      go_quiet (fail)
      go_wp2
      go_ret
      exact ⟨by rw [HV.out]; rfl, _, rfl⟩
end Go.Proofs.Ytmadlabnhjhfiaa
namespace Go.Proofs.Ytmadlabnhjhfiaa
open Go Go.RowKit
theorem one_decode : FloatKind.f32.decode 1065353216 = .number false 8388608 (-23) := by decide +kernel
theorem eq_one {x : Nat} (hf : fin .f32 x = true) (h : FloatKind.f32.format.order x 1065353216 = some .eq) : FloatKind.f32.decode x = FloatKind.f32.decode 1065353216 := by
  have h1 : fin .f32 1065353216 = true := by decide +kernel
  rw [order_key hf h1] at h
  have hk : key x = key 1065353216 := by
    have h : compare (key x) (key 1065353216) = .eq := by simpa using h
    exact Int.compare_eq_eq.1 h
  obtain ⟨s, m, e, hd⟩ := fin_number hf
  obtain ⟨n1, n2, n3, n4⟩ := f32_norm hd
  rw [key_num hd, key_num one_decode] at hk
  have e0 : Ieee.signed false 8388608 ((-23 : Int) + 149).toNat = ((2 ^ 149 : Nat) : Int) := by decide
  rw [e0] at hk
  cases s
  · have hk2 : m * 2 ^ (e + 149).toNat = 2 ^ 149 := by
      unfold Ieee.signed at hk
      simp only [Bool.false_eq_true, if_false, Nat.shiftLeft_eq] at hk
      exact_mod_cast hk
    by_cases h9 : -149 < e
    · have h23 := n4 h9
      generalize hq : (e + 149).toNat = q at hk2
      have l1 : 2 ^ (23 + q) ≤ 2 ^ 149 := by rw [← hk2, Nat.pow_add]; exact Nat.mul_le_mul_right _ h23
      have l2 : 2 ^ 149 < 2 ^ (24 + q) := by rw [← hk2, Nat.pow_add]; exact Nat.mul_lt_mul_of_pos_right n1 (Nat.two_pow_pos _)
      have l3 : 23 + q ≤ 149 := (Nat.pow_le_pow_iff_right (by decide)).1 l1
      have l4 : 149 < 24 + q := (Nat.pow_lt_pow_iff_right (by decide)).1 l2
      have hq2 : q = 126 := by omega
      subst hq2
      have he : e = -23 := by omega
      have hm : m = 8388608 := by
        have : m * 2 ^ 126 = 8388608 * 2 ^ 126 := by rw [hk2]
        exact Nat.eq_of_mul_eq_mul_right (Nat.two_pow_pos _) this
      rw [hd, he, hm, one_decode]
    · have he : e = -149 := by omega
      subst he
      simp at hk2
      omega
  · exfalso
    unfold Ieee.signed at hk
    simp only [if_true] at hk
    generalize m <<< (e + 149).toNat = z at hk
    have : (0 : Int) < ((2 ^ 149 : Nat) : Int) := by decide
    omega
theorem run_min_eq {P : Program} {x y : Nat} (h : FloatKind.f32.format.order x y = some .eq) (hn : (FloatKind.f32.decode x).neg = false) (ts : Array TypeId) (t : TypeId) (w : World) : (Builtin.min_ ts t #[.float .f32 x, .float .f32 y]).run P w = .ok (.float .f32 y) w := by
  simp [Builtin.min_, Builtin.min2, h, hn]
theorem i_listOf_los (c0 c1 c2 : Value) (q : Nat → Nat) (n : Nat) (w : World) (hn : n ≤ 1048576)
    (hat : ∀ k, k < n → ∀ wr, Below w.heap.size w wr → Calls Try.prog 169 #[.int .i64 k, c0, c1, c2] wr fun e w' => e = .returned (.float .f32 (q k)) ∧ Below wr.heap.size wr w') :
    Calls Try.prog 81 #[.int .i64 n, .func (.func 169) #[] #[c0, c1, c2]] w fun e w' => ∃ (A : Option Addr) (xs : List Nat), e = .returned (.slice A n n) ∧ xs.length = n ∧ (∀ k, k < n → xs.getD k 0 = q k) ∧ Below w.heap.size w w' ∧ A = some ⟨w.heap.size, 0, none⟩ ∧ Own w' w.heap.size xs := by
  have hmk := make_f32 n w hn
  have HA := Lib.hid hat; clear hat
  go_enter Try.func81, Try.ntmps81
  go_wp2
  go_loopw [11] (fun i wr => ∃ (k : Nat) (ys : List Nat), k ≤ n ∧ i = .int .i64 k ∧ FlNew w wr w.heap.size n k ys ∧ ys.length = n ∧ Hid (∀ j, j < k → ys.getD j 0 = q j)) (fun i _ => n - (intOf i).toNat)
  case atStart => exact ⟨0, List.replicate n 0, Nat.zero_le _, rfl, FlNew.start .., by simp, Lib.hid (fun j hj => absurd hj (Nat.not_lt_zero j))⟩
  case round =>
    obtain ⟨k, ys, hk, rfl, hnew, hlen, hq⟩ := hrel
    clear hmk
    by_cases hlt : k < n
    · have hcall := HA.out k hlt _ hnew.1
      have HN := Lib.hid hnew; clear hnew
      have hwr : IntKind.i64.wrap ((k : Int) + 1) = (k : Int) + 1 := IntWalk.i64_in _ (by omega)
      go_wp2_with fail
      refine hcall.mono ?_
      rintro e w1 ⟨rfl, b1⟩
      have hn1 := HN.out.below b1
      obtain ⟨hc2, hc3⟩ := hn1.2.2.2 k hlt
      rw [if_neg (by omega)] at hc2
      have hst := (hn1.congr (ys := ys.set k (q k)) (fun j hj => by rw [getD_lset (by omega), if_neg (by omega)])).step hlt
      rw [getD_lset (by omega), if_pos rfl] at hst
      have HS := Lib.hid hst
      have HQ : Hid (∀ j, j < k + 1 → (ys.set k (q k)).getD j 0 = q j) := Lib.hid (fun j hj => by
        rw [getD_lset (by omega)]
        by_cases e : k = j
        · rw [if_pos e, e]
        · rw [if_neg e]; exact hq.out j (by omega))
      clear hst hn1 b1 hcall
      go_wp2
      go_roundw
      case rel => exact ⟨k + 1, ys.set k (q k), by omega, by go_num, HS.out, by simp [hlen], HQ⟩
      case measure => simp [intOf]; omega
    · have HN := Lib.hid hnew; clear hnew
      have hkk : k = n := by omega
      subst hkk
      go_wp2
      go_ret
      exact ⟨_, ys, rfl, hlen, hq.out, HN.out.1, rfl, by subst hlen; exact Own.of_new HN.out (Nat.le_refl _)⟩
set_option maxHeartbeats 8000000 in
set_option maxRecDepth 20000 in
theorem i_lossAt (X Y : Option Addr) (cx cy : Nat) (fx fy : List Nat) (fr fd fs : Nat) (x y c s : Nat) (w : World) (h : Rs w X Y fx fy) (hn : FewS fx fy) (hL : LosOk fx fy fr fd fs x y c s) :
    Calls Try.prog 114 #[.agg #[.slice X fx.length cx, .slice Y fy.length cy, .float .f32 fr, .float .f32 fd, .float .f32 fs], .agg #[.float .f32 x, .float .f32 y], .agg #[.float .f32 c, .float .f32 s]] w fun e w' => ∃ r, e = .returned (.float .f32 r) ∧ FloatKind.f32.decode r = FloatKind.f32.decode (losV fx fy fr fd fs x y c s) ∧ Below w.heap.size w w' := by
  have HP := Lib.hid h; clear h
  have HL := Lib.hid hL; clear hL
  have HN12 := Lib.hid HL.out.n
  have HSL : Hid ((sqL fx fy fr fd fs x y c s).length = fx.length) := Lib.hid (sqL_length ..)
  have HSA : Hid (∀ k, k < fx.length → (sqL fx fy fr fd fs x y c s).getD k 0 = fop .mul .f32 (wkQ fx fy fr fd fs x y c s k) (wkQ fx fy fr fd fs x y c s k)) := Lib.hid (fun k hk => sqL_at hk)
  obtain ⟨w0, hw0⟩ : ∃ z, z = ((w.alloc (.cells #[.slice X fx.length cx, .slice Y fy.length cy, .float .f32 fr, .float .f32 fd, .float .f32 fs] 50)).alloc (.cells #[.float .f32 x, .float .f32 y] 130)).alloc (.cells #[.float .f32 c, .float .f32 s] 132) := ⟨_, rfl⟩
  have KF : Hid (BlkL w0 w.heap.size [.slice X fx.length cx, .slice Y fy.length cy, .float .f32 fr, .float .f32 fd, .float .f32 fs]) := Lib.hid (by rw [hw0]; exact ((blkL_at w #[.slice X fx.length cx, .slice Y fy.length cy, .float .f32 fr, .float .f32 fd, .float .f32 fs] _ rfl).alloc _).alloc _)
  have KA : Hid (BlkL w0 (w.heap.size + 1) [.float .f32 x, .float .f32 y]) := Lib.hid (by rw [hw0]; exact (blkL_at (w.alloc _) #[.float .f32 x, .float .f32 y] _ (by simp)).alloc _)
  have KT : Hid (BlkL w0 (w.heap.size + 2) [.float .f32 c, .float .f32 s]) := Lib.hid (by rw [hw0]; exact blkL_at ((w.alloc _).alloc _) #[.float .f32 c, .float .f32 s] _ (by simp))
  have B0 : Hid (Below w.heap.size w w0) := Lib.hid (by rw [hw0]; exact (((Below.refl _ _).alloc (Nat.le_refl _) _).alloc (by simp) _).alloc (by simp; omega) _)
  have k0 := (KF.out.2 0 _ rfl).1
  rw [hw0] at k0
  go_enter Try.func114, Try.ntmps114
  go_wp2_with fail
  rw [← hw0]
  clear k0 hw0
  refine (i_listOf_los _ _ _ (fun k => fop .mul .f32 (wkQ fx fy fr fd fs x y c s k) (wkQ fx fy fr fd fs x y c s k)) fx.length _ (by have := HN12.out; omega) (fun k hk wr hb => i_losAt1 X Y cx cy fx fy fr fd fs w.heap.size (w.heap.size + 1) (w.heap.size + 2) k x y c s wr (HP.out.below (below_of B0.out B0.out.size hb)) hn HL.out hk (KF.out.below hb) (KA.out.below hb) (KT.out.below hb))).mono ?_
  rintro e w1 ⟨Y', ys, rfl, hlen, hq, b1, rfl, hown⟩
  have HYE : Hid (ys = sqL fx fy fr fd fs x y c s) := Lib.hid (by
    apply List.ext_getElem (by rw [hlen, HSL.out])
    intro k h2 h3
    have h4 := hq k (by omega)
    rw [← HSA.out k (by omega)] at h4
    simpa [List.getD, h2, h3] using h4)
  have B1 : Hid (Below w.heap.size w w1) := Lib.hid (below_of B0.out B0.out.size b1)
  have HO := Lib.hid hown
  have HLen := Lib.hid hlen
  have HE := Lib.hid (i_sumOf (some ⟨w0.heap.size, 0, none⟩) ys.length ys w1 hown.fl (by have := HN12.out; omega))
  rw [hlen] at HE
  clear b1 hown hq hlen
  have HSUM : Hid (∀ r, canon .f32 r = sumK ys fx.length → r = sumK (sqL fx fy fr fd fs x y c s) fx.length) := Lib.hid (fun r hr => by
    have hb := bdp_bd (HL.out.sum _ (Nat.le_refl _))
    rw [HYE.out] at hr
    have hn2 : isn .f32 r = false := by rw [← isn_canon, hr]; exact isn_of_fin (bd_fin hb)
    rw [canon_of_not hn2] at hr
    exact hr)
  have HROOT : Hid (∀ r, canon .f32 r = canon .f32 (rootF (canon .f32 (sumK (sqL fx fy fr fd fs x y c s) fx.length))) → r = losR fx fy fr fd fs x y c s) := Lib.hid (fun r hr => by
    have hb := bdp_bd (HL.out.sum _ (Nat.le_refl _))
    rw [bd_canon hb] at hr
    have h2 := bdp_bd HL.out.root
    have hn2 : isn .f32 r = false := by rw [← isn_canon, hr]; exact isn_of_fin (bd_fin h2)
    rw [canon_of_not hn2] at hr
    exact hr)
  have HFR : Hid (fin .f32 (losR fx fy fr fd fs x y c s) = true) := Lib.hid (bd_fin (bdp_bd HL.out.root))
  have HNG : Hid ((FloatKind.f32.decode (losR fx fy fr fd fs x y c s)).neg = false) := Lib.hid (by obtain ⟨m, e, hd, -⟩ := HL.out.root; rw [hd]; rfl)
  have HV : Hid (losV fx fy fr fd fs x y c s = if gtr32 (losR fx fy fr fd fs x y c s) 1065353216 then 1065353216 else losR fx fy fr fd fs x y c s) := Lib.hid rfl
  generalize sumK (sqL fx fy fr fd fs x y c s) fx.length = SM at *
  generalize losR fx fy fr fd fs x y c s = R at *
  clear HSL HSA KF KA KT B0 HL
  go_wp2_with fail
  refine HE.out.mono ?_
  rintro e w2 ⟨r, n2, rfl, hr, hw2⟩
  obtain rfl := HSUM.out r hr
  have B2 : Hid (Below w.heap.size w w2) := Lib.hid (by rw [hw2]; exact below_draws B1.out _)
  clear hr hw2
  go_wp2_with fail
  refine (i_RootNumber _ _).mono ?_
  rintro e w3 ⟨r', n3, rfl, hr, hw3⟩
  obtain rfl := HROOT.out r' hr
  have B3 : Hid (Below w.heap.size w w3) := Lib.hid (by rw [hw3]; exact below_draws B2.out _)
  clear hr hw3
  have hso := order_some (k := .f32) (isn_of_fin HFR.out) (show isn .f32 1065353216 = false by decide +kernel)
  cases ho : FloatKind.f32.format.order r' 1065353216 with
  | none => rw [ho] at hso; cases hso
  | some oo =>
    cases oo
    · have hmn := run_min_lt (P := Try.prog) ho #[22, 22] 22
      have HVE : Hid (losV fx fy fr fd fs x y c s = r') := Lib.hid (by rw [HV.out]; unfold gtr32; rw [ho]; rfl)
      clear hso ho HV
      go_wp2
      go_ret
      exact ⟨_, rfl, by rw [HVE.out], B3.out⟩
    · have hmn := run_min_eq (P := Try.prog) ho HNG.out #[22, 22] 22
      have HVE : Hid (losV fx fy fr fd fs x y c s = r') := Lib.hid (by rw [HV.out]; unfold gtr32; rw [ho]; rfl)
      have HDE := Lib.hid (eq_one HFR.out ho)
      clear hso ho HV
      go_wp2
      go_ret
      exact ⟨_, rfl, by rw [HVE.out, HDE.out], B3.out⟩
    · have hmn := run_min_gt (P := Try.prog) ho #[22, 22] 22
      have HVE : Hid (losV fx fy fr fd fs x y c s = 1065353216) := Lib.hid (by rw [HV.out]; unfold gtr32; rw [ho]; rfl)
      clear hso ho HV
      go_wp2
      go_ret
      exact ⟨_, rfl, by rw [HVE.out], B3.out⟩
end Go.Proofs.Ytmadlabnhjhfiaa
namespace Go.Proofs.Ytmadlabnhjhfiaa
open Go Go.RowKit
set_option maxHeartbeats 8000000 in
set_option maxRecDepth 20000 in
theorem s_l06Loss (X Y : Option Addr) (cx cy : Nat) (fx fy : List Nat) (fr fd fs : Nat) (B x y t c s : Nat) (w : World) (h : Rs w X Y fx fy) (hn : FewS fx fy) (hk : BlkL w B [.slice X fx.length cx, .slice Y fy.length cy, .float .f32 fr, .float .f32 fd, .float .f32 fs]) (hL : LosOk fx fy fr fd fs x y c s) (hc : cosT t = c) (hs : sinC t = s) :
    Calls Try.prog 113 #[.pointer (some ⟨B, 0, none⟩), .float .f32 x, .float .f32 y, .float .f32 t] w fun e w' => e = .returned (.float .f32 (losV fx fy fr fd fs x y c s)) ∧ ∃ n, w' = w.drewN n := by
  have HP := Lib.hid h; clear h
  have HL := Lib.hid hL; clear hL
  have HK := Lib.hid hk; clear hk
  have HN12 := Lib.hid HL.out.n
  have HW : Hid (∀ k n, k < fx.length → Calls Try.prog 108 #[.pointer (some ⟨B, 0, none⟩), .int .i64 k, .float .f32 x, .float .f32 y, .float .f32 t] (w.drewN n) fun e w' => e = .returned (.float .f32 (wkQ fx fy fr fd fs x y c s k)) ∧ ∃ m, w' = (w.drewN n).drewN m) := Lib.hid (fun k n hk =>
    s_l06Wake X Y cx cy fx fy fr fd fs B k x y t c s _ _ (w.drewN n) (HP.out.draws n) hn (HK.out.draws n) hk (by rw [HL.out.e]; exact hk) (HL.out.d k hk).1 (HL.out.d k hk).2.1 rfl rfl HL.out.c HL.out.s hc hs (HL.out.wk hk))
  have HSQ : Hid (∀ k, k < fx.length → Sure .mul (wkQ fx fy fr fd fs x y c s k) (wkQ fx fy fr fd fs x y c s k) ∧ Sure .add (sumK (sqL fx fy fr fd fs x y c s) k) (fop .mul .f32 (wkQ fx fy fr fd fs x y c s k) (wkQ fx fy fr fd fs x y c s k)) ∧ fop .add .f32 (sumK (sqL fx fy fr fd fs x y c s) k) (fop .mul .f32 (wkQ fx fy fr fd fs x y c s k) (wkQ fx fy fr fd fs x y c s k)) = sumK (sqL fx fy fr fd fs x y c s) (k + 1)) := Lib.hid (fun k hk => by
    have hq := HL.out.sq hk
    have hs1 := HL.out.sum (k + 1) hk
    have e : fop .add .f32 (sumK (sqL fx fy fr fd fs x y c s) k) (fop .mul .f32 (wkQ fx fy fr fd fs x y c s k) (wkQ fx fy fr fd fs x y c s k)) = sumK (sqL fx fy fr fd fs x y c s) (k + 1) := by
      simp only [sumK]
      rw [sqL_at hk, bd_canon (bdp_bd hq)]
    exact ⟨sure_bd (bdp_bd hq), sure_bd (j := 102 + ((k + 1 : Nat) : Int)) (by rw [e]; exact bdp_bd hs1), e⟩)
  have HROOT : Hid (∀ r, canon .f32 r = canon .f32 (rootF (canon .f32 (sumK (sqL fx fy fr fd fs x y c s) fx.length))) → r = losR fx fy fr fd fs x y c s) := Lib.hid (fun r hr => by
    have hb := bdp_bd (HL.out.sum _ (Nat.le_refl _))
    rw [bd_canon hb] at hr
    have h2 := bdp_bd HL.out.root
    have hn2 : isn .f32 r = false := by rw [← isn_canon, hr]; exact isn_of_fin (bd_fin h2)
    rw [canon_of_not hn2] at hr
    exact hr)
  have HV : Hid (losV fx fy fr fd fs x y c s = if gtr32 (losR fx fy fr fd fs x y c s) 1065353216 then 1065353216 else losR fx fy fr fd fs x y c s) := Lib.hid rfl
  have HS0 : Hid (sumK (sqL fx fy fr fd fs x y c s) 0 = 0) := Lib.hid rfl
  have k0 := (HK.out.2 0 _ rfl).1
  generalize losR fx fy fr fd fs x y c s = R at *
  generalize sqL fx fy fr fd fs x y c s = SQ at *
  generalize wkQ fx fy fr fd fs x y c s = Q at *
  clear HL HK hc hs
  have hn12 := HN12.out
  go_enter Try.func113, Try.ntmps113
  go_wp2
  go_loopw [9, 10] (fun sm i wr => ∃ k n : Nat, k ≤ fx.length ∧ i = .int .i64 k ∧ sm = .float .f32 (sumK SQ k) ∧ wr = w.drewN n) (fun _ i _ => fx.length - (intOf i).toNat)
  case atStart => exact ⟨0, 0, Nat.zero_le _, rfl, by rw [HS0.out], rfl⟩
  case round =>
    obtain ⟨k, n, hk, rfl, rfl, rfl⟩ := hrel
    by_cases hlt : k < fx.length
    · obtain ⟨⟨m1, m2⟩, ⟨a1, a2⟩, hs⟩ := HSQ.out k hlt
      have HQ := HW.out k n hlt
      have HSS := Lib.hid hs
      rw [hs] at a1
      clear hs
      generalize Q k = q at *
      generalize fop .mul .f32 q q = qq at *
      obtain ⟨s1, hs1⟩ : ∃ z, z = sumK SQ (k + 1) := ⟨_, rfl⟩
      rw [← hs1] at a1
      have HS1 := Lib.hid hs1
      clear hs1 HSS
      generalize sumK SQ k = s0 at *
      go_wp2_with fail
      refine HQ.mono ?_
      rintro e w1 ⟨rfl, m, rfl⟩
      clear HQ
      go_wp2
      go_roundw
      case rel => exact ⟨k + 1, _, by omega, by go_num, by rw [← HS1.out], by first | rfl | exact World.drewN_drewN ..⟩
      case measure => simp [intOf]; omega
    · have hkk : k = fx.length := by omega
      subst hkk
      clear HW HSQ
      go_wp2_with fail
      refine (s_l01Sqrt _ _).mono ?_
      rintro e w1 ⟨r, n2, rfl, hr, rfl⟩
      obtain rfl := HROOT.out r hr
      clear hr
      cases hg : gtr32 r 1065353216
      · have HVE : Hid (losV fx fy fr fd fs x y c s = r) := Lib.hid (by rw [HV.out, hg]; rfl)
        unfold gtr32 at hg
        clear HV
        go_wp2
        go_ret
        exact ⟨by rw [HVE.out]; rfl, _, by first | rfl | exact World.drewN_drewN ..⟩
      · have HVE : Hid (losV fx fy fr fd fs x y c s = 1065353216) := Lib.hid (by rw [HV.out, hg]; rfl)
        unfold gtr32 at hg
        clear HV
        go_wp2
        go_ret
        exact ⟨by rw [HVE.out]; rfl, _, by first | rfl | exact World.drewN_drewN ..⟩
end Go.Proofs.Ytmadlabnhjhfiaa
namespace Go.Proofs.Ytmadlabnhjhfiaa
open Go Go.RowKit
theorem fop_read (op : BinOp) {x a b : Nat} (h : FloatKind.f32.decode a = FloatKind.f32.decode b) (hop : op = .sub) : fop op .f32 x a = fop op .f32 x b := by
  subst hop
  have h' : FloatKind.f32.format.read a = FloatKind.f32.format.read b := h
  unfold fop floatBits Ieee.Format.sub
  simp only []
  rw [h']
theorem mul_fin_sure {x y : Nat} (hx : fin .f32 x = true) (hy : fin .f32 y = true) : Sure .mul x y := by
  obtain ⟨s, m, e, dx⟩ := fin_number hx
  obtain ⟨t, n, j, dy⟩ := fin_number hy
  have dx' : FloatKind.f32.format.read x = .number s m e := dx
  have dy' : FloatKind.f32.format.read y = .number t n j := dy
  refine sure_num ?_
  have hb : floatBits .mul .f32 x y = some (FloatKind.f32.format.write (.number (s ^^ t) (m * n) (e + j))) := by
    unfold floatBits Ieee.Format.mul
    simp only []
    rw [dx', dy']
    rfl
  unfold fop
  rw [hb, Option.getD_some, isn_canon]
  exact write_not_nan FloatKind.f32.format rfl
theorem near_sub {x y : Nat} (hx : nearF x = true) (hy : nearF y = true) : Bd .f32 18 (fop .sub .f32 x y) := bd_sub fmt32 (bd_near hx) (bd_near hy) (by decide) (by decide)
theorem losV_bd {fx fy : List Nat} {fr fd fs x y c s : Nat} (h : LosOk fx fy fr fd fs x y c s) : Bd .f32 57 (losV fx fy fr fd fs x y c s) := by
  unfold losV
  split
  · exact ⟨false, 8388608, -23, one_decode, by unfold Le2; decide⟩
  · exact bdp_bd h.root
theorem less_sure {fx fy : List Nat} {fr fd fs x y c s : Nat} (h : LosOk fx fy fr fd fs x y c s) : Sure .sub 1065353216 (losV fx fy fr fd fs x y c s) ∧ fin .f32 (fop .sub .f32 1065353216 (losV fx fy fr fd fs x y c s)) = true := by
  have b1 : Bd .f32 57 1065353216 := ⟨false, 8388608, -23, one_decode, by unfold Le2; decide⟩
  have b := bd_sub fmt32 b1 (losV_bd h) (by decide) (by decide)
  exact ⟨sure_bd b, bd_fin b⟩
/-- a farm's own places -/
theorem losOk_own {fx fy : List Nat} {fr fd fs t k0 : Nat} (hv : frmV fx fy fr fd fs = true) (ht : fin .f32 t = true) (hk : k0 < fx.length) : LosOk fx fy fr fd fs (fx.getD k0 0) (fy.getD k0 0) (cosT t) (sinC t) := by
  obtain ⟨h1, h2, h3⟩ := frmV_parts hv
  have hs := hv
  unfold frmV at hs
  simp only [Bool.and_eq_true, decide_eq_true_eq] at hs
  have hsz := hs.1
  unfold sizedF at hsz
  unfold frmN at h3
  simp only [Bool.and_eq_true] at h3
  have hx : ∀ k, k < fx.length → nearF (fx.getD k 0) = true := fun k hk => fars_at h1 k hk
  have hy : ∀ k, k < fy.length → nearF (fy.getD k 0) = true := fun k hk => fars_at h2 k hk
  refine ⟨by omega, by omega, fun k hk2 => ?_, ?_, ?_, ?_, bd_cos ht, bd_sin ht⟩
  · have b1 := near_sub (hx k0 hk) (hx k hk2)
    have b2 := near_sub (hy k0 (by omega)) (hy k (by omega))
    exact ⟨sure_bd b1, sure_bd b2, b1, b2⟩
  · exact h3.1
  · exact h3.2.2.1
  · exact h3.2.2.2
end Go.Proofs.Ytmadlabnhjhfiaa
namespace Go.Proofs.Ytmadlabnhjhfiaa
open Go Go.RowKit
/-- the speed at a rotor -/
def sfwQ (fx fy : List Nat) (fr fd fs t sp k : Nat) : Nat := fop .mul .f32 sp (fop .sub .f32 1065353216 (losV fx fy fr fd fs (fx.getD k 0) (fy.getD k 0) (cosT t) (sinC t)))
def sfwX (fx fy : List Nat) (fr fd fs t sp : Nat) : List Nat := (List.range fx.length).map fun k => sfwQ fx fy fr fd fs t sp k
def sfwO (fx fy : List Nat) (fr fd fs t sp : Nat) : Bool := frmV fx fy fr fd fs && (fin .f32 t && amount sp)
def sfwG (fx fy : List Nat) (fr fd fs t sp : Nat) : List Nat := if sfwO fx fy fr fd fs t sp then sfwX fx fy fr fd fs t sp else []
theorem sfwX_length (fx fy : List Nat) (fr fd fs t sp : Nat) : (sfwX fx fy fr fd fs t sp).length = fx.length := by simp [sfwX]
theorem sfwX_at {fx fy : List Nat} {fr fd fs t sp k : Nat} (h : k < fx.length) : (sfwX fx fy fr fd fs t sp).getD k 0 = sfwQ fx fy fr fd fs t sp k := by simp [sfwX, List.getD, h]
theorem sfwG_no {fx fy : List Nat} {fr fd fs t sp : Nat} (h : sfwO fx fy fr fd fs t sp = false) : sfwG fx fy fr fd fs t sp = [] := by unfold sfwG; rw [h]; rfl
theorem sfwG_yes {fx fy : List Nat} {fr fd fs t sp : Nat} (h : sfwO fx fy fr fd fs t sp = true) : sfwG fx fy fr fd fs t sp = sfwX fx fy fr fd fs t sp := by unfold sfwG; rw [h]; rfl
theorem sfwO_v {fx fy : List Nat} {fr fd fs t sp : Nat} (h : frmV fx fy fr fd fs = false) : sfwO fx fy fr fd fs t sp = false := by unfold sfwO; rw [h]; rfl
theorem sfwO_t {fx fy : List Nat} {fr fd fs t sp : Nat} (h : fin .f32 t = false) : sfwO fx fy fr fd fs t sp = false := by unfold sfwO; rw [h]; simp
theorem sfwO_s {fx fy : List Nat} {fr fd fs t sp : Nat} (h : amount sp = false) : sfwO fx fy fr fd fs t sp = false := by unfold sfwO; rw [h]; simp
theorem sfwO_yes {fx fy : List Nat} {fr fd fs t sp : Nat} (h1 : frmV fx fy fr fd fs = true) (h2 : fin .f32 t = true) (h3 : amount sp = true) : sfwO fx fy fr fd fs t sp = true := by unfold sfwO; rw [h1, h2, h3]; rfl
theorem frmV_size {fx fy : List Nat} {fr fd fs : Nat} (h : frmV fx fy fr fd fs = true) : 1 ≤ fx.length ∧ fx.length ≤ 12 ∧ fy.length = fx.length := by
  unfold frmV at h
  simp only [Bool.and_eq_true, decide_eq_true_eq] at h
  have hsz := h.1
  unfold sizedF at hsz
  omega
theorem sfw_few (fx fy : List Nat) (fr fd fs t sp : Nat) : (sfwG fx fy fr fd fs t sp).length ≤ 1048576 := by
  cases h : sfwO fx fy fr fd fs t sp
  · rw [sfwG_no h]; simp
  · rw [sfwG_yes h, sfwX_length]
    have h1 : frmV fx fy fr fd fs = true := by unfold sfwO at h; rw [Bool.and_eq_true] at h; exact h.1
    have := frmV_size h1
    omega
theorem amount_fin {x : Nat} (h : amount x = true) : fin .f32 x = true := by unfold amount at h; rw [Bool.and_eq_true] at h; exact h.1
/-- what is sure of a speed -/
theorem sfw_sure {fx fy : List Nat} {fr fd fs t sp k : Nat} (hv : frmV fx fy fr fd fs = true) (ht : fin .f32 t = true) (hs : amount sp = true) (hk : k < fx.length) :
    (∀ r, FloatKind.f32.decode r = FloatKind.f32.decode (losV fx fy fr fd fs (fx.getD k 0) (fy.getD k 0) (cosT t) (sinC t)) → (∀ w, fopV .sub .f32 1065353216 r w = fop .sub .f32 1065353216 (losV fx fy fr fd fs (fx.getD k 0) (fy.getD k 0) (cosT t) (sinC t))) ∧ fopN .sub .f32 1065353216 r = 0) ∧
    ((∀ w, fopV .mul .f32 sp (fop .sub .f32 1065353216 (losV fx fy fr fd fs (fx.getD k 0) (fy.getD k 0) (cosT t) (sinC t))) w = sfwQ fx fy fr fd fs t sp k) ∧ fopN .mul .f32 sp (fop .sub .f32 1065353216 (losV fx fy fr fd fs (fx.getD k 0) (fy.getD k 0) (cosT t) (sinC t))) = 0) := by
  have hL := losOk_own hv ht hk
  obtain ⟨h1, h2⟩ := less_sure hL
  refine ⟨fun r hr => ?_, mul_fin_sure (amount_fin hs) h2⟩
  have e := fop_read .sub (x := 1065353216) hr rfl
  have hn : isn .f32 (fop .sub .f32 1065353216 r) = false := by rw [e]; exact isn_of_fin h2
  obtain ⟨a, b⟩ := fop_sure hn
  exact ⟨fun w => (a w).trans e, b⟩
theorem i_listOf_sfw (c0 c1 c2 : Value) (q : Nat → Nat) (n : Nat) (w : World) (hn : n ≤ 1048576)
    (hat : ∀ k, k < n → ∀ wr, Below w.heap.size w wr → Calls Try.prog 217 #[.int .i64 k, c0, c1, c2] wr fun e w' => e = .returned (.float .f32 (q k)) ∧ Below wr.heap.size wr w') :
    Calls Try.prog 81 #[.int .i64 n, .func (.func 217) #[] #[c0, c1, c2]] w fun e w' => ∃ (A : Option Addr) (xs : List Nat), e = .returned (.slice A n n) ∧ xs.length = n ∧ (∀ k, k < n → xs.getD k 0 = q k) ∧ Below w.heap.size w w' ∧ A = some ⟨w.heap.size, 0, none⟩ ∧ Own w' w.heap.size xs := by
  have hmk := make_f32 n w hn
  have HA := Lib.hid hat; clear hat
  go_enter Try.func81, Try.ntmps81
  go_wp2
  go_loopw [11] (fun i wr => ∃ (k : Nat) (ys : List Nat), k ≤ n ∧ i = .int .i64 k ∧ FlNew w wr w.heap.size n k ys ∧ ys.length = n ∧ Hid (∀ j, j < k → ys.getD j 0 = q j)) (fun i _ => n - (intOf i).toNat)
  case atStart => exact ⟨0, List.replicate n 0, Nat.zero_le _, rfl, FlNew.start .., by simp, Lib.hid (fun j hj => absurd hj (Nat.not_lt_zero j))⟩
  case round =>
    obtain ⟨k, ys, hk, rfl, hnew, hlen, hq⟩ := hrel
    clear hmk
    by_cases hlt : k < n
    · have hcall := HA.out k hlt _ hnew.1
      have HN := Lib.hid hnew; clear hnew
      have hwr : IntKind.i64.wrap ((k : Int) + 1) = (k : Int) + 1 := IntWalk.i64_in _ (by omega)
      go_wp2_with fail
      refine hcall.mono ?_
      rintro e w1 ⟨rfl, b1⟩
      have hn1 := HN.out.below b1
      obtain ⟨hc2, hc3⟩ := hn1.2.2.2 k hlt
      rw [if_neg (by omega)] at hc2
      have hst := (hn1.congr (ys := ys.set k (q k)) (fun j hj => by rw [getD_lset (by omega), if_neg (by omega)])).step hlt
      rw [getD_lset (by omega), if_pos rfl] at hst
      have HS := Lib.hid hst
      have HQ : Hid (∀ j, j < k + 1 → (ys.set k (q k)).getD j 0 = q j) := Lib.hid (fun j hj => by
        rw [getD_lset (by omega)]
        by_cases e : k = j
        · rw [if_pos e, e]
        · rw [if_neg e]; exact hq.out j (by omega))
      clear hst hn1 b1 hcall
      go_wp2
      go_roundw
      case rel => exact ⟨k + 1, ys.set k (q k), by omega, by go_num, HS.out, by simp [hlen], HQ⟩
      case measure => simp [intOf]; omega
    · have HN := Lib.hid hnew; clear hnew
      have hkk : k = n := by omega
      subst hkk
      go_wp2
      go_ret
      exact ⟨_, ys, rfl, hlen, hq.out, HN.out.1, rfl, by subst hlen; exact Own.of_new HN.out (Nat.le_refl _)⟩
set_option maxHeartbeats 4000000 in
set_option maxRecDepth 20000 in
theorem i_sfwAt (X Y : Option Addr) (cx cy : Nat) (fx fy : List Nat) (fr fd fs : Nat) (B1 B2 B3 k t sp : Nat) (w : World) (h : Rs w X Y fx fy) (hn : FewS fx fy) (hv : frmV fx fy fr fd fs = true) (ht : fin .f32 t = true) (hs : amount sp = true) (hk : k < fx.length) (l1 : BlkL w B1 [.float .f32 sp]) (l2 : BlkL w B2 [.slice X fx.length cx, .slice Y fy.length cy, .float .f32 fr, .float .f32 fd, .float .f32 fs]) (l3 : BlkL w B3 [.float .f32 (cosT t), .float .f32 (sinC t)]) :
    Calls Try.prog 217 #[.int .i64 k, .pointer (some ⟨B1, 0, none⟩), .pointer (some ⟨B2, 0, none⟩), .pointer (some ⟨B3, 0, none⟩)] w fun e w' => e = .returned (.float .f32 (sfwQ fx fy fr fd fs t sp k)) ∧ Below w.heap.size w w' := by
  have hky : k < fy.length := by have := frmV_size hv; omega
  have HPL : Hid (∀ W, Below w.heap.size w W → Calls Try.prog 124 #[.agg #[.slice X fx.length cx, .slice Y fy.length cy, .float .f32 fr, .float .f32 fd, .float .f32 fs], .int .i64 k] W fun e w' => e = .returned (.agg #[.float .f32 (fx.getD k 0), .float .f32 (fy.getD k 0)]) ∧ Below W.heap.size W w') := Lib.hid (fun W hb => i_placeOf X Y cx cy fx fy fr fd fs k W ⟨h.1.below hb, h.2.below hb⟩ hn hk hky)
  have HLO : Hid (∀ W, Below w.heap.size w W → Calls Try.prog 114 #[.agg #[.slice X fx.length cx, .slice Y fy.length cy, .float .f32 fr, .float .f32 fd, .float .f32 fs], .agg #[.float .f32 (fx.getD k 0), .float .f32 (fy.getD k 0)], .agg #[.float .f32 (cosT t), .float .f32 (sinC t)]] W fun e w' => ∃ r, e = .returned (.float .f32 r) ∧ FloatKind.f32.decode r = FloatKind.f32.decode (losV fx fy fr fd fs (fx.getD k 0) (fy.getD k 0) (cosT t) (sinC t)) ∧ Below W.heap.size W w') := Lib.hid (fun W hb => i_lossAt X Y cx cy fx fy fr fd fs _ _ _ _ W ⟨h.1.below hb, h.2.below hb⟩ hn (losOk_own hv ht hk))
  obtain ⟨hz, hq⟩ := sfw_sure hv ht hs hk
  have HZ := Lib.hid hz
  have HQ := Lib.hid hq
  have L1 := Lib.hid l1
  have L2 := Lib.hid l2
  have L3 := Lib.hid l3
  clear l1 l2 l3 hz hq h hn hv ht hs hk hky
  generalize sfwQ fx fy fr fd fs t sp k = q at HQ ⊢
  generalize (losV fx fy fr fd fs (fx.getD k 0) (fy.getD k 0) (cosT t) (sinC t)) = L at HLO HZ HQ
  generalize fop .sub .f32 1065353216 L = z at HZ HQ
  generalize fx.getD k 0 = x at HPL HLO
  generalize fy.getD k 0 = y at HPL HLO
  generalize cosT t = c at HLO L3
  generalize sinC t = s at HLO L3
  go_enter Try.func217, Try.ntmps217
  go_wp2
  refine wp_region_inv4 (fun iq wv v => match iq with
    | 0 => v = .float .f32 sp
    | 1 => v = .agg #[.slice X fx.length cx, .slice Y fy.length cy, .float .f32 fr, .float .f32 fd, .float .f32 fs]
    | 2 => v = .agg #[.slice X fx.length cx, .slice Y fy.length cy, .float .f32 fr, .float .f32 fd, .float .f32 fs]
    | 3 => v = .int .i64 k
    | 4 => v = .agg #[.float .f32 x, .float .f32 y]
    | 5 => v = .agg #[.float .f32 c, .float .f32 s]
    | 6 => ∃ r, v = .float .f32 r ∧ FloatKind.f32.decode r = FloatKind.f32.decode L
    | 7 => v = .float .f32 z
    | 8 => v = .float .f32 q
    | 9 => v = .float .f32 q
    | _ => False) (fun _ ww => Below w.heap.size w ww) (fun w w' => Below w.heap.size w w') ?hmono (by kernel_rfl) (by kernel_rfl) ((Below.refl _ _).drew) ?hop ?hend
  case hmono =>
    intro i wa wb v hR hV
    rcases i with _ | _ | _ | _ | _ | _ | _ | _ | _ | _ | i
    · exact hV
    · exact hV
    · exact hV
    · exact hV
    · exact hV
    · exact hV
    · exact hV
    · exact hV
    · exact hV
    · exact hV
    · exact hV
  case hop =>
    intro q o hq listed act w3 hI hnot hcl hall
    have hB := hI.cls
    rcases q with _ | _ | _ | _ | _ | _ | _ | _ | _ | _ | q
    · simp at hq; subst hq
      have g1 : act.tmps[1]?.getD undef = .pointer (some ⟨B1, 0, none⟩) := hI.kept 1 (by kernel_rfl)
      have m0 := ((L1.out.below hB).2 0 _ rfl).1
      clear hI hall hnot hcl
      refine .inl ⟨wanted_none rfl, ?_⟩
      unfold Oper.wp
      go_simp
      all_goals first | exact ⟨_, rfl, Below.refl _ _, rfl, hB⟩ | exact ⟨_, rfl, Below.refl _ _, rfl⟩ | exact ⟨Below.refl _ _, rfl, hB⟩ | exact ⟨Below.refl _ _, hB⟩ | exact Below.refl _ _ | exact ⟨_, rfl, Below.refl _ _, hB⟩
    · simp at hq; subst hq
      have g2 : act.tmps[2]?.getD undef = .pointer (some ⟨B2, 0, none⟩) := hI.kept 2 (by kernel_rfl)
      have m0 := ((L2.out.below hB).2 0 _ rfl).1
      have m1 := ((L2.out.below hB).2 1 _ rfl).1
      have m2 := ((L2.out.below hB).2 2 _ rfl).1
      have m3 := ((L2.out.below hB).2 3 _ rfl).1
      have m4 := ((L2.out.below hB).2 4 _ rfl).1
      clear hI hall hnot hcl
      refine .inl ⟨wanted_none rfl, ?_⟩
      unfold Oper.wp
      go_simp
      all_goals first | exact ⟨_, rfl, Below.refl _ _, rfl, hB⟩ | exact ⟨_, rfl, Below.refl _ _, rfl⟩ | exact ⟨Below.refl _ _, rfl, hB⟩ | exact ⟨Below.refl _ _, hB⟩ | exact Below.refl _ _ | exact ⟨_, rfl, Below.refl _ _, hB⟩
    · simp at hq; subst hq
      have g2 : act.tmps[2]?.getD undef = .pointer (some ⟨B2, 0, none⟩) := hI.kept 2 (by kernel_rfl)
      have m0 := ((L2.out.below hB).2 0 _ rfl).1
      have m1 := ((L2.out.below hB).2 1 _ rfl).1
      have m2 := ((L2.out.below hB).2 2 _ rfl).1
      have m3 := ((L2.out.below hB).2 3 _ rfl).1
      have m4 := ((L2.out.below hB).2 4 _ rfl).1
      clear hI hall hnot hcl
      refine .inl ⟨wanted_none rfl, ?_⟩
      unfold Oper.wp
      go_simp
      all_goals first | exact ⟨_, rfl, Below.refl _ _, rfl, hB⟩ | exact ⟨_, rfl, Below.refl _ _, rfl⟩ | exact ⟨Below.refl _ _, rfl, hB⟩ | exact ⟨Below.refl _ _, hB⟩ | exact Below.refl _ _ | exact ⟨_, rfl, Below.refl _ _, hB⟩
    · simp at hq; subst hq
      have g0 : act.tmps[0]?.getD undef = .int .i64 k := hI.kept 0 (by kernel_rfl)
      clear hI hall hnot hcl
      refine .inl ⟨wanted_none rfl, ?_⟩
      unfold Oper.wp
      go_simp
      all_goals first | exact ⟨_, rfl, Below.refl _ _, rfl, hB⟩ | exact ⟨_, rfl, Below.refl _ _, rfl⟩ | exact ⟨Below.refl _ _, rfl, hB⟩ | exact ⟨Below.refl _ _, hB⟩ | exact Below.refl _ _ | exact ⟨_, rfl, Below.refl _ _, hB⟩
    · simp at hq; subst hq
      have g8 : act.tmps[8]?.getD undef = .agg #[.slice X fx.length cx, .slice Y fy.length cy, .float .f32 fr, .float .f32 fd, .float .f32 fs] := hI.has 2 8 rfl (hall ⟨2, .data⟩ (by simp) rfl)
      have g9 : act.tmps[9]?.getD undef = .int .i64 k := hI.has 3 9 rfl (hall ⟨3, .data⟩ (by simp) rfl)
      clear hI hall hnot hcl
      refine .inl ⟨wanted_none rfl, ?_⟩
      unfold Oper.wp
      go_simp
      refine ((HPL.out _ hB)).mono ?_
      rintro e w4 ⟨rfl, b4⟩
      exact ⟨_, rfl, b4, rfl, below_of hB hB.size b4⟩
    · simp at hq; subst hq
      have g3 : act.tmps[3]?.getD undef = .pointer (some ⟨B3, 0, none⟩) := hI.kept 3 (by kernel_rfl)
      have m0 := ((L3.out.below hB).2 0 _ rfl).1
      have m1 := ((L3.out.below hB).2 1 _ rfl).1
      clear hI hall hnot hcl
      refine .inl ⟨wanted_none rfl, ?_⟩
      unfold Oper.wp
      go_simp
      all_goals first | exact ⟨_, rfl, Below.refl _ _, rfl, hB⟩ | exact ⟨_, rfl, Below.refl _ _, rfl⟩ | exact ⟨Below.refl _ _, rfl, hB⟩ | exact ⟨Below.refl _ _, hB⟩ | exact Below.refl _ _ | exact ⟨_, rfl, Below.refl _ _, hB⟩
    · simp at hq; subst hq
      have g7 : act.tmps[7]?.getD undef = .agg #[.slice X fx.length cx, .slice Y fy.length cy, .float .f32 fr, .float .f32 fd, .float .f32 fs] := hI.has 1 7 rfl (hall ⟨1, .data⟩ (by simp) rfl)
      have g10 : act.tmps[10]?.getD undef = .agg #[.float .f32 x, .float .f32 y] := hI.has 4 10 rfl (hall ⟨4, .data⟩ (by simp) rfl)
      have g11 : act.tmps[11]?.getD undef = .agg #[.float .f32 c, .float .f32 s] := hI.has 5 11 rfl (hall ⟨5, .data⟩ (by simp) rfl)
      clear hI hall hnot hcl
      refine .inl ⟨wanted_none rfl, ?_⟩
      unfold Oper.wp
      go_simp
      refine ((HLO.out _ hB)).mono ?_
      rintro e w4 ⟨r, rfl, hr, b4⟩
      exact ⟨_, rfl, b4, ⟨r, rfl, hr⟩, below_of hB hB.size b4⟩
    · simp at hq; subst hq
      obtain ⟨r, g12, hr⟩ := hI.has 6 12 rfl (hall ⟨6, .data⟩ (by simp) rfl)
      obtain ⟨z1, z2⟩ := HZ.out r hr
      clear hr
      clear hI hall hnot hcl
      refine .inl ⟨wanted_none rfl, ?_⟩
      unfold Oper.wp
      go_simp
      all_goals first | exact ⟨_, rfl, Below.refl _ _, rfl, hB⟩ | exact ⟨_, rfl, Below.refl _ _, rfl⟩ | exact ⟨Below.refl _ _, rfl, hB⟩ | exact ⟨Below.refl _ _, hB⟩ | exact Below.refl _ _ | exact ⟨_, rfl, Below.refl _ _, hB⟩
    · simp at hq; subst hq
      have g6 : act.tmps[6]?.getD undef = .float .f32 sp := hI.has 0 6 rfl (hall ⟨0, .data⟩ (by simp) rfl)
      have g13 : act.tmps[13]?.getD undef = .float .f32 z := hI.has 7 13 rfl (hall ⟨7, .data⟩ (by simp) rfl)
      obtain ⟨z1, z2⟩ := HQ.out
      clear hI hall hnot hcl
      refine .inl ⟨wanted_none rfl, ?_⟩
      unfold Oper.wp
      go_simp
      all_goals first | exact ⟨_, rfl, Below.refl _ _, rfl, hB⟩ | exact ⟨_, rfl, Below.refl _ _, rfl⟩ | exact ⟨Below.refl _ _, rfl, hB⟩ | exact ⟨Below.refl _ _, hB⟩ | exact Below.refl _ _ | exact ⟨_, rfl, Below.refl _ _, hB⟩
    · simp at hq; subst hq
      have g14 : act.tmps[14]?.getD undef = .float .f32 q := hI.has 8 14 rfl (hall ⟨8, .data⟩ (by simp) rfl)
      clear hI hall hnot hcl
      refine .inl ⟨wanted_none rfl, ?_⟩
      unfold Oper.wp
      go_simp
      all_goals first | exact ⟨_, rfl, Below.refl _ _, rfl, hB⟩ | exact ⟨_, rfl, Below.refl _ _, rfl⟩ | exact ⟨Below.refl _ _, rfl, hB⟩ | exact ⟨Below.refl _ _, hB⟩ | exact Below.refl _ _ | exact ⟨_, rfl, Below.refl _ _, hB⟩
    · simp at hq
  case hend =>
    intro listed act w3 hI hall
    have hB := hI.cls
    have g5 : act.tmps[5]?.getD undef = .float .f32 q := hI.has 9 5 rfl (hall 9 (by decide))
    have hd := hI.defers
    clear hI hall
    go_wp2
    refine bodyPost_ret (v := .float .f32 q) (by simp [results, Try.results217, g5, go_sem]) (by first | rfl | exact hd) ?_
    exact ⟨rfl, hB⟩
set_option maxHeartbeats 8000000 in
set_option maxRecDepth 20000 in
theorem i_SpeedsInFarm (X Y : Option Addr) (cx cy : Nat) (fx fy : List Nat) (fr fd fs : Nat) (t sp : Nat) (w : World) (h : Rs w X Y fx fy) (hn : FewS fx fy) :
    Calls Try.prog 202 #[.agg #[.slice X fx.length cx, .slice Y fy.length cy, .float .f32 fr, .float .f32 fd, .float .f32 fs], .float .f32 t, .float .f32 sp] w fun e w' => ∃ R1 c1 g1, e = .returned (.tuple #[.slice R1 (sfwG fx fy fr fd fs t sp).length c1, .bool (sfwO fx fy fr fd fs t sp)]) ∧ OwnO w' w.heap.size R1 g1 (sfwG fx fy fr fd fs t sp) ∧ Below w.heap.size w w' := by
  have HP := Lib.hid h; clear h
  have HNF := Lib.hid hn; clear hn
  obtain ⟨w0, hw0⟩ : ∃ z, z = (w.alloc (.cells #[.slice X fx.length cx, .slice Y fy.length cy, .float .f32 fr, .float .f32 fd, .float .f32 fs] 50)).alloc (.cells #[.float .f32 sp] 22) := ⟨_, rfl⟩
  have K0 : Hid (BlkL w0 w.heap.size [.slice X fx.length cx, .slice Y fy.length cy, .float .f32 fr, .float .f32 fd, .float .f32 fs]) := Lib.hid (by rw [hw0]; exact (blkL_at w #[.slice X fx.length cx, .slice Y fy.length cy, .float .f32 fr, .float .f32 fd, .float .f32 fs] _ rfl).alloc _)
  have S0 : Hid (BlkL w0 (w.heap.size + 1) [.float .f32 sp]) := Lib.hid (by rw [hw0]; exact blkL_at (w.alloc _) #[.float .f32 sp] _ (by simp))
  have B0 : Hid (Below w.heap.size w w0) := Lib.hid (by rw [hw0]; exact ((Below.refl _ _).alloc (Nat.le_refl _) _).alloc (by simp) _)
  obtain ⟨k0, k1, k2, k3, k4⟩ := K0.out.five
  go_enter Try.func202, Try.ntmps202
  go_upto_region 1 with fail
  rw [← hw0]
  clear hw0
  go_wp2_with fail
  refine (i_ValidFarm X Y cx cy fx fy fr fd fs _ ⟨HP.out.1.below B0.out, HP.out.2.below B0.out⟩ HNF.out).mono ?_
  rintro e w1 ⟨rfl, b1⟩
  clear k0 k1 k2 k3 k4
  have K1 := Lib.hid (K0.out.below b1)
  have S1 := Lib.hid (S0.out.below b1)
  have B1 : Hid (Below w.heap.size w w1) := Lib.hid (below_of B0.out B0.out.size b1)
  clear b1
  cases hv : frmV fx fy fr fd fs
  · skip
    have HN : Hid (sfwO fx fy fr fd fs t sp = false) := Lib.hid (sfwO_v hv)
    go_wp2
    refine bodyPost_ret (results_tmp2 rfl _ _ _) rfl ?_
    rw [sfwG_no HN.out, HN.out]
    exact ⟨none, 0, 0, rfl, .inl rfl, B1.out⟩
  · have HV := Lib.hid hv
    clear hv
    go_wp2_with fail
    refine (i_notFinite _ _).mono ?_
    rintro e w2 ⟨n2, rfl, hw⟩
    have b2 : Below w1.heap.size w1 w2 := by rw [hw]; exact below_draws (Below.refl _ _) _
    clear hw
    have K2 := Lib.hid (K1.out.below b2)
    have S2 := Lib.hid (S1.out.below b2)
    have B2 : Hid (Below w.heap.size w w2) := Lib.hid (below_of B1.out B1.out.size b2)
    clear b2
    cases ht : fin .f32 t
    · skip
      have HN : Hid (sfwO fx fy fr fd fs t sp = false) := Lib.hid (sfwO_t ht)
      go_wp2
      refine bodyPost_ret (results_tmp2 rfl _ _ _) rfl ?_
      rw [sfwG_no HN.out, HN.out]
      exact ⟨none, 0, 0, rfl, .inl rfl, B2.out⟩
    · have HT := Lib.hid ht
      clear ht
      have s0 := (S2.out.2 0 _ rfl).1
      go_wp2_with fail
      refine (i_notAmount _ _).mono ?_
      rintro e w3 ⟨n3, rfl, hw⟩
      have b3 : Below w2.heap.size w2 w3 := by rw [hw]; exact below_draws (Below.refl _ _) _
      clear hw s0
      have K3 := Lib.hid (K2.out.below b3)
      have S3 := Lib.hid (S2.out.below b3)
      have B3 : Hid (Below w.heap.size w w3) := Lib.hid (below_of B2.out B2.out.size b3)
      clear b3
      cases hs : amount sp
      · skip
        have HN : Hid (sfwO fx fy fr fd fs t sp = false) := Lib.hid (sfwO_s hs)
        go_wp2
        refine bodyPost_ret (results_tmp2 rfl _ _ _) rfl ?_
        rw [sfwG_no HN.out, HN.out]
        exact ⟨none, 0, 0, rfl, .inl rfl, B3.out⟩
      · have HS := Lib.hid hs
        clear hs
        have HO : Hid (sfwO fx fy fr fd fs t sp = true) := Lib.hid (sfwO_yes HV.out HT.out HS.out)
        go_wp2_with fail
        refine (i_directionOf _ _).mono ?_
        rintro e w4 ⟨c, s, rfl, hc, hs, b4⟩
        obtain rfl : c = cosT t := exact_of hc (bd_cos HT.out)
        obtain rfl : s = sinC t := exact_of hs (bd_sin HT.out)
        clear hc hs
        have K4 := Lib.hid (K3.out.below b4)
        have S4 := Lib.hid (S3.out.below b4)
        have B4 : Hid (Below w.heap.size w w4) := Lib.hid (below_of B3.out B3.out.size b4)
        clear b4
        obtain ⟨w5, hw5⟩ : ∃ z, z = w4.alloc (.cells #[.float .f32 (cosT t), .float .f32 (sinC t)] 132) := ⟨_, rfl⟩
        have b5 : Below w4.heap.size w4 w5 := by rw [hw5]; exact (Below.refl _ _).alloc (Nat.le_refl _) _
        have D5 : Hid (BlkL w5 w4.heap.size [.float .f32 (cosT t), .float .f32 (sinC t)]) := Lib.hid (by rw [hw5]; exact blkL_at w4 #[.float .f32 (cosT t), .float .f32 (sinC t)] _ rfl)
        have K5 := Lib.hid (K4.out.below b5)
        have S5 := Lib.hid (S4.out.below b5)
        have B5 : Hid (Below w.heap.size w w5) := Lib.hid (below_of B4.out B4.out.size b5)
        clear b5
        have k0 := (K5.out.2 0 _ rfl).1
        rw [hw5] at k0
        have HSZ := Lib.hid (frmV_size HV.out)
        go_wp2_with fail
        rw [← hw5]
        clear k0 hw5
        refine (i_listOf_sfw _ _ _ (fun k => sfwQ fx fy fr fd fs t sp k) fx.length _ (by have := HSZ.out; omega) (fun k hk wr hb => i_sfwAt X Y cx cy fx fy fr fd fs (w.heap.size + 1) w.heap.size w4.heap.size k t sp wr ⟨HP.out.1.below (below_of B5.out B5.out.size hb), HP.out.2.below (below_of B5.out B5.out.size hb)⟩ HNF.out HV.out HT.out HS.out hk (S5.out.below hb) (K5.out.below hb) (D5.out.below hb))).mono ?_
        rintro e w6 ⟨Y', ys, rfl, hlen, hq, b6, rfl, hown⟩
        have HYE : Hid (ys = sfwX fx fy fr fd fs t sp) := Lib.hid (by
          apply List.ext_getElem (by rw [hlen, sfwX_length])
          intro k h2 h3
          have h4 := hq k (by omega)
          rw [← sfwX_at (by omega)] at h4
          simpa [List.getD, h2, h3] using h4)
        have HLEN := Lib.hid hlen
        have HOW := Lib.hid hown
        have B6 : Hid (Below w.heap.size w w6) := Lib.hid (below_of B5.out B5.out.size b6)
        clear hlen hown hq b6
        go_wp2
        refine bodyPost_ret (results_tmp2 rfl _ _ _) rfl ?_
        have e1 := HYE.out
        have e2 := HLEN.out
        subst e1
        rw [sfwG_yes HO.out, HO.out, ← e2]
        exact ⟨some ⟨w5.heap.size, 0, none⟩, _, w5.heap.size, rfl, Own.o HOW.out B5.out.size, B6.out⟩
end Go.Proofs.Ytmadlabnhjhfiaa
namespace Go.Proofs.Ytmadlabnhjhfiaa
open Go Go.RowKit
def CFs (W : World) (ap : Nat) (listed : Array Bool) (ww : World) : Prop := listed.getD ap false = false → Below W.heap.size W ww
theorem CFs.start (W : World) (ap n : Nat) : CFs W ap (Array.replicate n false) { W with drawn := W.drawn + 1 } := fun _ => (Below.refl _ _).drew
theorem CFs.step {W ww ww' : World} {ap k n : Nat} {listed : Array Bool} (h : CFs W ap listed ww) (hn : listed.size = n) (hi : k < n) (hk : k ≠ ap) (hb : Below ww.heap.size ww ww') : CFs W ap (listed.setIfInBounds k true) ww' := by
  intro hl
  rw [getD_set (show k < listed.size by omega), if_neg hk] at hl
  exact below_of (h hl) (h hl).size hb
theorem CFs.done {W ww : World} {ap n : Nat} {listed : Array Bool} (hn : listed.size = n) (hi : ap < n) : CFs W ap (listed.setIfInBounds ap true) ww := by
  intro hl
  rw [getD_set (show ap < listed.size by omega), if_pos rfl] at hl
  cases hl
theorem Gr.ltR' {w : World} {B0 : Nat} {v : Value} {xs : List Nat} (h : Gr w B0 v xs) {k : Nat} (hk : v.ownBlock = some k) : B0 ≤ k ∧ k < w.heap.size := World.ownsRow.lt h k hk
theorem BlkL.kept' {w w' : World} {B : Nat} {vs : List Value} {row : Option Nat} (h : BlkL w B vs) (hg : w.grownBy w' row) (hne : row ≠ some B) : BlkL w' B vs := by
  have hb : w'.heap[B]? = w.heap[B]? := hg.block B h.1 (fun e => hne e.symm)
  refine ⟨Nat.lt_of_lt_of_le h.1 hg.size, fun j v hj => ?_⟩
  obtain ⟨h1, h2⟩ := h.2 j v hj
  refine ⟨by rw [← h1]; exact World.cell?_of_block (w := w) hb, ?_⟩
  rw [← h2]
  unfold World.frozen?
  simp only [hb]
/-- a slice of one number, made in the region -/
def SVe (wr : World) (q : Nat) (w : World) (v : Value) : Prop := ∃ B : Nat, v = .slice (some ⟨B, 0, none⟩) 1 1 ∧ wr.heap.size ≤ B ∧ BlkL w B [.float .f32 q]
theorem SVe.made {wr w : World} {q : Nat} (hb : Below wr.heap.size wr w) : SVe wr q (w.alloc (.cells #[.float .f32 q] 22)) (.slice (some ⟨w.heap.size, 0, none⟩) 1 1) :=
  ⟨w.heap.size, rfl, hb.size, blkL_at w #[.float .f32 q] _ rfl⟩
theorem SVe.grown {wr w w' : World} {q : Nat} {v : Value} {row : Option Nat} (h : SVe wr q w v) (hg : w.grownBy w' row) (hne : ∀ k, row = some k → k < wr.heap.size) : SVe wr q w' v := by
  obtain ⟨B, e, h2, h3⟩ := h
  exact ⟨B, e, h2, h3.kept' hg (fun e => by have := hne _ e; omega)⟩
def SPx (w0 : World) (xs : List Nat) (q : Nat) (w : World) (v : Value) : Prop := Gr w w0.heap.size v (xs ++ [q]) ∧ Below w0.heap.size w0 w
theorem take_snocS {xs : List Nat} {k : Nat} (h : k < xs.length) : xs.take (k + 1) = xs.take k ++ [xs.getD k 0] := by
  rw [List.take_add_one, List.getElem?_eq_getElem h, List.getD_eq_getElem?_getD, List.getElem?_eq_getElem h]
  rfl
set_option maxHeartbeats 16000000 in
set_option maxRecDepth 100000 in
theorem s_l06Speeds (X Y : Option Addr) (cx cy : Nat) (fx fy : List Nat) (fr fd fs : Nat) (B t sp : Nat) (w : World) (h : Rs w X Y fx fy) (hn : FewS fx fy) (hk : BlkL w B [.slice X fx.length cx, .slice Y fy.length cy, .float .f32 fr, .float .f32 fd, .float .f32 fs]) (hv : frmV fx fy fr fd fs = true) (ht : fin .f32 t = true) (hs : amount sp = true) :
    Calls Try.prog 201 #[.pointer (some ⟨B, 0, none⟩), .float .f32 t, .float .f32 sp] w fun e w' => ∃ R1 c1 g1, e = .returned (.slice R1 (sfwX fx fy fr fd fs t sp).length c1) ∧ OwnO w' w.heap.size R1 g1 (sfwX fx fy fr fd fs t sp) ∧ Below w.heap.size w w' := by
  have HP := Lib.hid h
  have HNF := Lib.hid hn
  have HK := Lib.hid hk
  have HV := Lib.hid hv
  have HT := Lib.hid ht
  have HSP := Lib.hid hs
  have HSZ := Lib.hid (frmV_size hv)
  have HN12 : Hid (fx.length ≤ 12) := Lib.hid (frmV_size hv).2.1
  obtain ⟨bx, ox, rfl, -, -⟩ := h.1.at_ (k := 0) (by have := frmV_size hv; omega)
  obtain ⟨by_, oy, rfl, -, -⟩ := h.2.at_ (k := 0) (by have := frmV_size hv; omega)
  obtain ⟨i0, hi, hz0, hz1, hz2⟩ := info_parts f32_info
  have HI := Lib.hid hi
  have HZ0 := Lib.hid hz0
  have HZ1 := Lib.hid hz1
  have HZ2 := Lib.hid hz2
  clear hi hz0 hz1 hz2 h hn hk hv ht hs
  have HG0 : Hid (Gr (w.alloc (.cells #[] 22)) w.heap.size (.slice (some ⟨w.heap.size, 0, none⟩) 0 0) []) := Lib.hid (Gr.made w w.heap.size 0 #[] (Nat.le_refl _) (Nat.zero_le _) rfl)
  have HB0 : Hid (Below w.heap.size w (w.alloc (.cells #[] 22))) := Lib.hid ((Below.refl _ _).alloc (Nat.le_refl _) _)
  have HX0 : Hid (([] : List Nat) = (sfwX fx fy fr fd fs t sp).take 0) := Lib.hid rfl
  go_enter Try.func201, Try.ntmps201
  go_wp2
  go_loopw [7, 8] (fun v i wr => ∃ (k : Nat) (xs : List Nat), k ≤ fx.length ∧ i = .int .i64 k ∧ Hid (Gr wr w.heap.size v xs) ∧ Hid (xs = (sfwX fx fy fr fd fs t sp).take k) ∧ Hid (Below w.heap.size w wr)) (fun _ i _ => fx.length - (intOf i).toNat)
  case atStart => exact ⟨0, [], Nat.zero_le _, rfl, HG0, HX0, HB0⟩
  case round =>
    obtain ⟨k, xs, hk, rfl, HG, HXT, HBr⟩ := hrel
    clear HG0 HB0 HX0
    have m0 := ((HK.out.below HBr.out).2 0 _ rfl).1
    by_cases hlt : k < fx.length
    · have hlty : k < fy.length := by have := HSZ.out; omega
      have HLX : Hid (xs.length ≤ 12) := Lib.hid (by have h1 := HXT.out; rw [h1, List.length_take]; have := HN12.out; omega)
      obtain ⟨hz, hq⟩ := sfw_sure HV.out HT.out HSP.out hlt
      have HZ := Lib.hid (hz _ rfl)
      have HQ := Lib.hid hq
      have HLS : Hid (∀ W, Below wr.heap.size wr W → Calls Try.prog 113 #[.pointer (some ⟨B, 0, none⟩), .float .f32 (fx.getD k 0), .float .f32 (fy.getD k 0), .float .f32 t] W fun e w' => e = .returned (.float .f32 (losV fx fy fr fd fs (fx.getD k 0) (fy.getD k 0) (cosT t) (sinC t))) ∧ ∃ n, w' = W.drewN n) := Lib.hid (fun W hb => s_l06Loss (some ⟨bx, ox, none⟩) (some ⟨by_, oy, none⟩) cx cy fx fy fr fd fs B _ _ t _ _ W ⟨HP.out.1.below (below_of HBr.out HBr.out.size hb), HP.out.2.below (below_of HBr.out HBr.out.size hb)⟩ HNF.out (HK.out.below (below_of HBr.out HBr.out.size hb)) (losOk_own HV.out HT.out hlt) rfl rfl)
      have HCX : Hid (∀ W, Below wr.heap.size wr W → W.cell? ⟨bx, ox + k, none⟩ = some (.float .f32 (fx.getD k 0))) := Lib.hid (fun W hb => (HP.out.1.below (below_of HBr.out HBr.out.size hb)).same rfl hlt)
      have HCY : Hid (∀ W, Below wr.heap.size wr W → W.cell? ⟨by_, oy + k, none⟩ = some (.float .f32 (fy.getD k 0))) := Lib.hid (fun W hb => (HP.out.2.below (below_of HBr.out HBr.out.size hb)).same rfl hlty)
      have HXS : Hid ((sfwX fx fy fr fd fs t sp).take (k + 1) = (sfwX fx fy fr fd fs t sp).take k ++ [sfwQ fx fy fr fd fs t sp k]) := Lib.hid (by rw [take_snocS (by rw [sfwX_length]; exact hlt), sfwX_at hlt])
      clear hz hq
      generalize sfwQ fx fy fr fd fs t sp k = q at HQ HXS
      generalize (losV fx fy fr fd fs (fx.getD k 0) (fy.getD k 0) (cosT t) (sinC t)) = L at HLS HZ HQ
      generalize fop .sub .f32 1065353216 L = z at HZ HQ
      generalize fx.getD k 0 = x at HLS HCX
      generalize fy.getD k 0 = y at HLS HCY
      go_wp2
      clear m0
      refine wp_region_inv6 (fun iq wv v => match iq with
        | 0 => v = u7
        | 1 => v = .float .f32 sp
        | 2 => v = .pointer (some ⟨B, 0, none⟩)
        | 3 => v = .pointer (some ⟨B, 0, none⟩)
        | 4 => v = .pointer (some ⟨B, 0, none⟩)
        | 5 => v = .pointer (some ⟨B, 0, none⟩)
        | 6 => v = .slice (some ⟨bx, ox, none⟩) fx.length cx
        | 7 => v = .int .i64 k
        | 8 => v = .pointer (some ⟨bx, ox + k, none⟩)
        | 9 => v = .float .f32 x
        | 10 => v = .pointer (some ⟨B, 0, none⟩)
        | 11 => v = .pointer (some ⟨B, 0, none⟩)
        | 12 => v = .pointer (some ⟨B, 1, none⟩)
        | 13 => v = .slice (some ⟨by_, oy, none⟩) fy.length cy
        | 14 => v = .int .i64 k
        | 15 => v = .pointer (some ⟨by_, oy + k, none⟩)
        | 16 => v = .float .f32 y
        | 17 => v = .float .f32 t
        | 18 => v = .float .f32 L
        | 19 => v = .float .f32 z
        | 20 => v = .float .f32 q
        | 21 => SVe wr q wv v
        | 22 => SPx w xs q wv v
        | 23 => SPx w xs q wv v
        | _ => False) (CFs wr 22) (by kernel_rfl) (by kernel_rfl) (CFs.start _ _ _) ?hop ?hend
      case hop =>
        intro q o hq listed act wq hI hnot hcl hall
        have hC := hI.cls
        rcases q with _ | _ | _ | _ | _ | _ | _ | _ | _ | _ | _ | _ | _ | _ | _ | _ | _ | _ | _ | _ | _ | _ | _ | _ | q
        · simp at hq; subst hq
          have hl22 : listed.getD 22 false = false := hcl.not (j := 22) (i := 0) (e := ⟨0, .data⟩) rfl (by simp) rfl rfl hnot
          have hl23 : listed.getD 23 false = false := hcl.not (j := 23) (i := 22) (e := ⟨22, .data⟩) rfl (by simp) rfl rfl hl22
          have g7 : act.tmps[7]?.getD undef = u7 := hI.keptN 7 23 (by kernel_rfl) hl23
          have hC2 := hC.step (k := 0) hI.len (by decide) (by decide) (Below.refl _ _)
          clear hI hall hnot hcl hC hl22 hl23
          refine .inl ⟨wanted_none rfl, ?_⟩
          unfold Oper.wp
          go_simp
          all_goals first | exact ⟨_, rfl, fun _ _ _ h => h, rfl, hC2⟩ | exact ⟨_, rfl, rfl, hC2⟩ | exact ⟨rfl, hC2⟩ | exact hC2 | exact ⟨_, rfl, hC2⟩ | exact ⟨fun _ _ _ h => h, rfl, hC2⟩
        · simp at hq; subst hq
          have g2 : act.tmps[2]?.getD undef = .float .f32 sp := hI.kept 2 (by kernel_rfl)
          have hC2 := hC.step (k := 1) hI.len (by decide) (by decide) (Below.refl _ _)
          clear hI hall hnot hcl hC
          refine .inl ⟨wanted_none rfl, ?_⟩
          unfold Oper.wp
          go_simp
          all_goals first | exact ⟨_, rfl, fun _ _ _ h => h, rfl, hC2⟩ | exact ⟨_, rfl, rfl, hC2⟩ | exact ⟨rfl, hC2⟩ | exact hC2 | exact ⟨_, rfl, hC2⟩ | exact ⟨fun _ _ _ h => h, rfl, hC2⟩
        · simp at hq; subst hq
          have g0 : act.tmps[0]?.getD undef = .pointer (some ⟨B, 0, none⟩) := hI.kept 0 (by kernel_rfl)
          have hC2 := hC.step (k := 2) hI.len (by decide) (by decide) (Below.refl _ _)
          clear hI hall hnot hcl hC
          refine .inl ⟨wanted_none rfl, ?_⟩
          unfold Oper.wp
          go_simp
          all_goals first | exact ⟨_, rfl, fun _ _ _ h => h, rfl, hC2⟩ | exact ⟨_, rfl, rfl, hC2⟩ | exact ⟨rfl, hC2⟩ | exact hC2 | exact ⟨_, rfl, hC2⟩ | exact ⟨fun _ _ _ h => h, rfl, hC2⟩
        · simp at hq; subst hq
          have g0 : act.tmps[0]?.getD undef = .pointer (some ⟨B, 0, none⟩) := hI.kept 0 (by kernel_rfl)
          have hC2 := hC.step (k := 3) hI.len (by decide) (by decide) (Below.refl _ _)
          clear hI hall hnot hcl hC
          refine .inl ⟨wanted_none rfl, ?_⟩
          unfold Oper.wp
          go_simp
          all_goals first | exact ⟨_, rfl, fun _ _ _ h => h, rfl, hC2⟩ | exact ⟨_, rfl, rfl, hC2⟩ | exact ⟨rfl, hC2⟩ | exact hC2 | exact ⟨_, rfl, hC2⟩ | exact ⟨fun _ _ _ h => h, rfl, hC2⟩
        · simp at hq; subst hq
          have g22 : act.tmps[22]?.getD undef = .pointer (some ⟨B, 0, none⟩) := hI.has 3 22 rfl (hall ⟨3, .data⟩ (by simp) rfl)
          have hC2 := hC.step (k := 4) hI.len (by decide) (by decide) (Below.refl _ _)
          clear hI hall hnot hcl hC
          refine .inl ⟨wanted_none rfl, ?_⟩
          unfold Oper.wp
          go_simp
          all_goals first | exact ⟨_, rfl, fun _ _ _ h => h, rfl, hC2⟩ | exact ⟨_, rfl, rfl, hC2⟩ | exact ⟨rfl, hC2⟩ | exact hC2 | exact ⟨_, rfl, hC2⟩ | exact ⟨fun _ _ _ h => h, rfl, hC2⟩
        · simp at hq; subst hq
          have g23 : act.tmps[23]?.getD undef = .pointer (some ⟨B, 0, none⟩) := hI.has 4 23 rfl (hall ⟨4, .data⟩ (by simp) rfl)
          have hC2 := hC.step (k := 5) hI.len (by decide) (by decide) (Below.refl _ _)
          clear hI hall hnot hcl hC
          refine .inl ⟨wanted_none rfl, ?_⟩
          unfold Oper.wp
          go_simp
          all_goals first | exact ⟨_, rfl, fun _ _ _ h => h, rfl, hC2⟩ | exact ⟨_, rfl, rfl, hC2⟩ | exact ⟨rfl, hC2⟩ | exact hC2 | exact ⟨_, rfl, hC2⟩ | exact ⟨fun _ _ _ h => h, rfl, hC2⟩
        · simp at hq; subst hq
          have hl8 : listed.getD 8 false = false := hcl.not (j := 8) (i := 6) (e := ⟨6, .data⟩) rfl (by simp) rfl rfl hnot
          have hl9 : listed.getD 9 false = false := hcl.not (j := 9) (i := 8) (e := ⟨8, .data⟩) rfl (by simp) rfl rfl hl8
          have hl18 : listed.getD 18 false = false := hcl.not (j := 18) (i := 9) (e := ⟨9, .data⟩) rfl (by simp) rfl rfl hl9
          have hl19 : listed.getD 19 false = false := hcl.not (j := 19) (i := 18) (e := ⟨18, .data⟩) rfl (by simp) rfl rfl hl18
          have hl20 : listed.getD 20 false = false := hcl.not (j := 20) (i := 19) (e := ⟨19, .data⟩) rfl (by simp) rfl rfl hl19
          have hl21 : listed.getD 21 false = false := hcl.not (j := 21) (i := 20) (e := ⟨20, .data⟩) rfl (by simp) rfl rfl hl20
          have hl22 : listed.getD 22 false = false := hcl.not (j := 22) (i := 21) (e := ⟨21, .data⟩) rfl (by simp) rfl rfl hl21
          have hl23 : listed.getD 23 false = false := hcl.not (j := 23) (i := 22) (e := ⟨22, .data⟩) rfl (by simp) rfl rfl hl22
          have g24 : act.tmps[24]?.getD undef = .pointer (some ⟨B, 0, none⟩) := hI.has 5 24 rfl (hall ⟨5, .data⟩ (by simp) rfl)
          have hB := hC hl22
          have hc := ((HK.out.below (below_of HBr.out HBr.out.size hB)).2 0 _ rfl).1
          have hC2 := hC.step (k := 6) hI.len (by decide) (by decide) (Below.refl _ _)
          clear hI hall hnot hcl hC hl8 hl9 hl18 hl19 hl20 hl21 hl22 hl23 hB
          refine .inl ⟨wanted_none rfl, ?_⟩
          unfold Oper.wp
          go_simp
          all_goals first | exact ⟨_, rfl, fun _ _ _ h => h, rfl, hC2⟩ | exact ⟨_, rfl, rfl, hC2⟩ | exact ⟨rfl, hC2⟩ | exact hC2 | exact ⟨_, rfl, hC2⟩ | exact ⟨fun _ _ _ h => h, rfl, hC2⟩
        · simp at hq; subst hq
          have g8 : act.tmps[8]?.getD undef = .int .i64 k := hI.kept 8 (by kernel_rfl)
          have hC2 := hC.step (k := 7) hI.len (by decide) (by decide) (Below.refl _ _)
          clear hI hall hnot hcl hC
          refine .inl ⟨wanted_none rfl, ?_⟩
          unfold Oper.wp
          go_simp
          all_goals first | exact ⟨_, rfl, fun _ _ _ h => h, rfl, hC2⟩ | exact ⟨_, rfl, rfl, hC2⟩ | exact ⟨rfl, hC2⟩ | exact hC2 | exact ⟨_, rfl, hC2⟩ | exact ⟨fun _ _ _ h => h, rfl, hC2⟩
        · simp at hq; subst hq
          have g25 : act.tmps[25]?.getD undef = .slice (some ⟨bx, ox, none⟩) fx.length cx := hI.has 6 25 rfl (hall ⟨6, .data⟩ (by simp) rfl)
          have g26 : act.tmps[26]?.getD undef = .int .i64 k := hI.has 7 26 rfl (hall ⟨7, .data⟩ (by simp) rfl)
          have hC2 := hC.step (k := 8) hI.len (by decide) (by decide) (Below.refl _ _)
          clear hI hall hnot hcl hC
          refine .inl ⟨wanted_none rfl, ?_⟩
          unfold Oper.wp
          go_simp
          all_goals first | exact ⟨_, rfl, fun _ _ _ h => h, rfl, hC2⟩ | exact ⟨_, rfl, rfl, hC2⟩ | exact ⟨rfl, hC2⟩ | exact hC2 | exact ⟨_, rfl, hC2⟩ | exact ⟨fun _ _ _ h => h, rfl, hC2⟩
        · simp at hq; subst hq
          have hl18 : listed.getD 18 false = false := hcl.not (j := 18) (i := 9) (e := ⟨9, .data⟩) rfl (by simp) rfl rfl hnot
          have hl19 : listed.getD 19 false = false := hcl.not (j := 19) (i := 18) (e := ⟨18, .data⟩) rfl (by simp) rfl rfl hl18
          have hl20 : listed.getD 20 false = false := hcl.not (j := 20) (i := 19) (e := ⟨19, .data⟩) rfl (by simp) rfl rfl hl19
          have hl21 : listed.getD 21 false = false := hcl.not (j := 21) (i := 20) (e := ⟨20, .data⟩) rfl (by simp) rfl rfl hl20
          have hl22 : listed.getD 22 false = false := hcl.not (j := 22) (i := 21) (e := ⟨21, .data⟩) rfl (by simp) rfl rfl hl21
          have hl23 : listed.getD 23 false = false := hcl.not (j := 23) (i := 22) (e := ⟨22, .data⟩) rfl (by simp) rfl rfl hl22
          have g27 : act.tmps[27]?.getD undef = .pointer (some ⟨bx, ox + k, none⟩) := hI.has 8 27 rfl (hall ⟨8, .data⟩ (by simp) rfl)
          have hB := hC hl22
          have hc := HCX.out _ hB
          have hC2 := hC.step (k := 9) hI.len (by decide) (by decide) (Below.refl _ _)
          clear hI hall hnot hcl hC hl18 hl19 hl20 hl21 hl22 hl23 hB
          refine .inl ⟨wanted_none rfl, ?_⟩
          unfold Oper.wp
          go_simp
          all_goals first | exact ⟨_, rfl, fun _ _ _ h => h, rfl, hC2⟩ | exact ⟨_, rfl, rfl, hC2⟩ | exact ⟨rfl, hC2⟩ | exact hC2 | exact ⟨_, rfl, hC2⟩ | exact ⟨fun _ _ _ h => h, rfl, hC2⟩
        · simp at hq; subst hq
          have g0 : act.tmps[0]?.getD undef = .pointer (some ⟨B, 0, none⟩) := hI.kept 0 (by kernel_rfl)
          have hC2 := hC.step (k := 10) hI.len (by decide) (by decide) (Below.refl _ _)
          clear hI hall hnot hcl hC
          refine .inl ⟨wanted_none rfl, ?_⟩
          unfold Oper.wp
          go_simp
          all_goals first | exact ⟨_, rfl, fun _ _ _ h => h, rfl, hC2⟩ | exact ⟨_, rfl, rfl, hC2⟩ | exact ⟨rfl, hC2⟩ | exact hC2 | exact ⟨_, rfl, hC2⟩ | exact ⟨fun _ _ _ h => h, rfl, hC2⟩
        · simp at hq; subst hq
          have g29 : act.tmps[29]?.getD undef = .pointer (some ⟨B, 0, none⟩) := hI.has 10 29 rfl (hall ⟨10, .data⟩ (by simp) rfl)
          have hC2 := hC.step (k := 11) hI.len (by decide) (by decide) (Below.refl _ _)
          clear hI hall hnot hcl hC
          refine .inl ⟨wanted_none rfl, ?_⟩
          unfold Oper.wp
          go_simp
          all_goals first | exact ⟨_, rfl, fun _ _ _ h => h, rfl, hC2⟩ | exact ⟨_, rfl, rfl, hC2⟩ | exact ⟨rfl, hC2⟩ | exact hC2 | exact ⟨_, rfl, hC2⟩ | exact ⟨fun _ _ _ h => h, rfl, hC2⟩
        · simp at hq; subst hq
          have g30 : act.tmps[30]?.getD undef = .pointer (some ⟨B, 0, none⟩) := hI.has 11 30 rfl (hall ⟨11, .data⟩ (by simp) rfl)
          have hC2 := hC.step (k := 12) hI.len (by decide) (by decide) (Below.refl _ _)
          clear hI hall hnot hcl hC
          refine .inl ⟨wanted_none rfl, ?_⟩
          unfold Oper.wp
          go_simp
          all_goals first | exact ⟨_, rfl, fun _ _ _ h => h, rfl, hC2⟩ | exact ⟨_, rfl, rfl, hC2⟩ | exact ⟨rfl, hC2⟩ | exact hC2 | exact ⟨_, rfl, hC2⟩ | exact ⟨fun _ _ _ h => h, rfl, hC2⟩
        · simp at hq; subst hq
          have hl15 : listed.getD 15 false = false := hcl.not (j := 15) (i := 13) (e := ⟨13, .data⟩) rfl (by simp) rfl rfl hnot
          have hl16 : listed.getD 16 false = false := hcl.not (j := 16) (i := 15) (e := ⟨15, .data⟩) rfl (by simp) rfl rfl hl15
          have hl18 : listed.getD 18 false = false := hcl.not (j := 18) (i := 16) (e := ⟨16, .data⟩) rfl (by simp) rfl rfl hl16
          have hl19 : listed.getD 19 false = false := hcl.not (j := 19) (i := 18) (e := ⟨18, .data⟩) rfl (by simp) rfl rfl hl18
          have hl20 : listed.getD 20 false = false := hcl.not (j := 20) (i := 19) (e := ⟨19, .data⟩) rfl (by simp) rfl rfl hl19
          have hl21 : listed.getD 21 false = false := hcl.not (j := 21) (i := 20) (e := ⟨20, .data⟩) rfl (by simp) rfl rfl hl20
          have hl22 : listed.getD 22 false = false := hcl.not (j := 22) (i := 21) (e := ⟨21, .data⟩) rfl (by simp) rfl rfl hl21
          have hl23 : listed.getD 23 false = false := hcl.not (j := 23) (i := 22) (e := ⟨22, .data⟩) rfl (by simp) rfl rfl hl22
          have g31 : act.tmps[31]?.getD undef = .pointer (some ⟨B, 1, none⟩) := hI.has 12 31 rfl (hall ⟨12, .data⟩ (by simp) rfl)
          have hB := hC hl22
          have hc := ((HK.out.below (below_of HBr.out HBr.out.size hB)).2 1 _ rfl).1
          have hC2 := hC.step (k := 13) hI.len (by decide) (by decide) (Below.refl _ _)
          clear hI hall hnot hcl hC hl15 hl16 hl18 hl19 hl20 hl21 hl22 hl23 hB
          refine .inl ⟨wanted_none rfl, ?_⟩
          unfold Oper.wp
          go_simp
          all_goals first | exact ⟨_, rfl, fun _ _ _ h => h, rfl, hC2⟩ | exact ⟨_, rfl, rfl, hC2⟩ | exact ⟨rfl, hC2⟩ | exact hC2 | exact ⟨_, rfl, hC2⟩ | exact ⟨fun _ _ _ h => h, rfl, hC2⟩
        · simp at hq; subst hq
          have g8 : act.tmps[8]?.getD undef = .int .i64 k := hI.kept 8 (by kernel_rfl)
          have hC2 := hC.step (k := 14) hI.len (by decide) (by decide) (Below.refl _ _)
          clear hI hall hnot hcl hC
          refine .inl ⟨wanted_none rfl, ?_⟩
          unfold Oper.wp
          go_simp
          all_goals first | exact ⟨_, rfl, fun _ _ _ h => h, rfl, hC2⟩ | exact ⟨_, rfl, rfl, hC2⟩ | exact ⟨rfl, hC2⟩ | exact hC2 | exact ⟨_, rfl, hC2⟩ | exact ⟨fun _ _ _ h => h, rfl, hC2⟩
        · simp at hq; subst hq
          have g32 : act.tmps[32]?.getD undef = .slice (some ⟨by_, oy, none⟩) fy.length cy := hI.has 13 32 rfl (hall ⟨13, .data⟩ (by simp) rfl)
          have g33 : act.tmps[33]?.getD undef = .int .i64 k := hI.has 14 33 rfl (hall ⟨14, .data⟩ (by simp) rfl)
          have hC2 := hC.step (k := 15) hI.len (by decide) (by decide) (Below.refl _ _)
          clear hI hall hnot hcl hC
          refine .inl ⟨wanted_none rfl, ?_⟩
          unfold Oper.wp
          go_simp
          all_goals first | exact ⟨_, rfl, fun _ _ _ h => h, rfl, hC2⟩ | exact ⟨_, rfl, rfl, hC2⟩ | exact ⟨rfl, hC2⟩ | exact hC2 | exact ⟨_, rfl, hC2⟩ | exact ⟨fun _ _ _ h => h, rfl, hC2⟩
        · simp at hq; subst hq
          have hl18 : listed.getD 18 false = false := hcl.not (j := 18) (i := 16) (e := ⟨16, .data⟩) rfl (by simp) rfl rfl hnot
          have hl19 : listed.getD 19 false = false := hcl.not (j := 19) (i := 18) (e := ⟨18, .data⟩) rfl (by simp) rfl rfl hl18
          have hl20 : listed.getD 20 false = false := hcl.not (j := 20) (i := 19) (e := ⟨19, .data⟩) rfl (by simp) rfl rfl hl19
          have hl21 : listed.getD 21 false = false := hcl.not (j := 21) (i := 20) (e := ⟨20, .data⟩) rfl (by simp) rfl rfl hl20
          have hl22 : listed.getD 22 false = false := hcl.not (j := 22) (i := 21) (e := ⟨21, .data⟩) rfl (by simp) rfl rfl hl21
          have hl23 : listed.getD 23 false = false := hcl.not (j := 23) (i := 22) (e := ⟨22, .data⟩) rfl (by simp) rfl rfl hl22
          have g34 : act.tmps[34]?.getD undef = .pointer (some ⟨by_, oy + k, none⟩) := hI.has 15 34 rfl (hall ⟨15, .data⟩ (by simp) rfl)
          have hB := hC hl22
          have hc := HCY.out _ hB
          have hC2 := hC.step (k := 16) hI.len (by decide) (by decide) (Below.refl _ _)
          clear hI hall hnot hcl hC hl18 hl19 hl20 hl21 hl22 hl23 hB
          refine .inl ⟨wanted_none rfl, ?_⟩
          unfold Oper.wp
          go_simp
          all_goals first | exact ⟨_, rfl, fun _ _ _ h => h, rfl, hC2⟩ | exact ⟨_, rfl, rfl, hC2⟩ | exact ⟨rfl, hC2⟩ | exact hC2 | exact ⟨_, rfl, hC2⟩ | exact ⟨fun _ _ _ h => h, rfl, hC2⟩
        · simp at hq; subst hq
          have g1 : act.tmps[1]?.getD undef = .float .f32 t := hI.kept 1 (by kernel_rfl)
          have hC2 := hC.step (k := 17) hI.len (by decide) (by decide) (Below.refl _ _)
          clear hI hall hnot hcl hC
          refine .inl ⟨wanted_none rfl, ?_⟩
          unfold Oper.wp
          go_simp
          all_goals first | exact ⟨_, rfl, fun _ _ _ h => h, rfl, hC2⟩ | exact ⟨_, rfl, rfl, hC2⟩ | exact ⟨rfl, hC2⟩ | exact hC2 | exact ⟨_, rfl, hC2⟩ | exact ⟨fun _ _ _ h => h, rfl, hC2⟩
        · simp at hq; subst hq
          have hl19 : listed.getD 19 false = false := hcl.not (j := 19) (i := 18) (e := ⟨18, .data⟩) rfl (by simp) rfl rfl hnot
          have hl20 : listed.getD 20 false = false := hcl.not (j := 20) (i := 19) (e := ⟨19, .data⟩) rfl (by simp) rfl rfl hl19
          have hl21 : listed.getD 21 false = false := hcl.not (j := 21) (i := 20) (e := ⟨20, .data⟩) rfl (by simp) rfl rfl hl20
          have hl22 : listed.getD 22 false = false := hcl.not (j := 22) (i := 21) (e := ⟨21, .data⟩) rfl (by simp) rfl rfl hl21
          have hl23 : listed.getD 23 false = false := hcl.not (j := 23) (i := 22) (e := ⟨22, .data⟩) rfl (by simp) rfl rfl hl22
          have g21 : act.tmps[21]?.getD undef = .pointer (some ⟨B, 0, none⟩) := hI.has 2 21 rfl (hall ⟨2, .data⟩ (by simp) rfl)
          have g28 : act.tmps[28]?.getD undef = .float .f32 x := hI.has 9 28 rfl (hall ⟨9, .data⟩ (by simp) rfl)
          have g35 : act.tmps[35]?.getD undef = .float .f32 y := hI.has 16 35 rfl (hall ⟨16, .data⟩ (by simp) rfl)
          have g36 : act.tmps[36]?.getD undef = .float .f32 t := hI.has 17 36 rfl (hall ⟨17, .data⟩ (by simp) rfl)
          have hB := hC hl22
          have hC2 := fun w4 (b4 : Below wq.heap.size wq w4) => hC.step (k := 18) hI.len (by decide) (by decide) b4
          clear hI hall hnot hcl hC
          refine .inl ⟨wanted_none rfl, ?_⟩
          unfold Oper.wp
          go_simp
          refine (HLS.out _ hB).mono ?_
          rintro e w4 ⟨rfl, m, rfl⟩
          refine ⟨_, rfl, fun j u hj hV => ?_, rfl, hC2 _ (below_draws (Below.refl _ _) _)⟩
          rcases j with _ | _ | _ | _ | _ | _ | _ | _ | _ | _ | _ | _ | _ | _ | _ | _ | _ | _ | _ | _ | _ | _ | _ | _ | j
          · exact hV
          · exact hV
          · exact hV
          · exact hV
          · exact hV
          · exact hV
          · exact hV
          · exact hV
          · exact hV
          · exact hV
          · exact hV
          · exact hV
          · exact hV
          · exact hV
          · exact hV
          · exact hV
          · exact hV
          · exact hV
          · exact hV
          · exact hV
          · exact hV
          · first | exact Bool.noConfusion (hl21.symm.trans hj) | (rw [Array.getD_eq_getD_getElem?] at hl21; exact Bool.noConfusion (hl21.symm.trans hj))
          · first | exact Bool.noConfusion (hl22.symm.trans hj) | (rw [Array.getD_eq_getD_getElem?] at hl22; exact Bool.noConfusion (hl22.symm.trans hj))
          · first | exact Bool.noConfusion (hl23.symm.trans hj) | (rw [Array.getD_eq_getD_getElem?] at hl23; exact Bool.noConfusion (hl23.symm.trans hj))
          · exact hV
        · simp at hq; subst hq
          have g37 : act.tmps[37]?.getD undef = .float .f32 L := hI.has 18 37 rfl (hall ⟨18, .data⟩ (by simp) rfl)
          obtain ⟨z1, z2⟩ := HZ.out
          have hC2 := hC.step (k := 19) hI.len (by decide) (by decide) (Below.refl _ _)
          clear hI hall hnot hcl hC
          refine .inl ⟨wanted_none rfl, ?_⟩
          unfold Oper.wp
          go_simp
          all_goals first | exact ⟨_, rfl, fun _ _ _ h => h, rfl, hC2⟩ | exact ⟨_, rfl, rfl, hC2⟩ | exact ⟨rfl, hC2⟩ | exact hC2 | exact ⟨_, rfl, hC2⟩ | exact ⟨fun _ _ _ h => h, rfl, hC2⟩
        · simp at hq; subst hq
          have g20 : act.tmps[20]?.getD undef = .float .f32 sp := hI.has 1 20 rfl (hall ⟨1, .data⟩ (by simp) rfl)
          have g38 : act.tmps[38]?.getD undef = .float .f32 z := hI.has 19 38 rfl (hall ⟨19, .data⟩ (by simp) rfl)
          obtain ⟨z1, z2⟩ := HQ.out
          have hC2 := hC.step (k := 20) hI.len (by decide) (by decide) (Below.refl _ _)
          clear hI hall hnot hcl hC
          refine .inl ⟨wanted_none rfl, ?_⟩
          unfold Oper.wp
          go_simp
          all_goals first | exact ⟨_, rfl, fun _ _ _ h => h, rfl, hC2⟩ | exact ⟨_, rfl, rfl, hC2⟩ | exact ⟨rfl, hC2⟩ | exact hC2 | exact ⟨_, rfl, hC2⟩ | exact ⟨fun _ _ _ h => h, rfl, hC2⟩
        · simp at hq; subst hq
          have hl22 : listed.getD 22 false = false := hcl.not (j := 22) (i := 21) (e := ⟨21, .data⟩) rfl (by simp) rfl rfl hnot
          have hl23 : listed.getD 23 false = false := hcl.not (j := 23) (i := 22) (e := ⟨22, .data⟩) rfl (by simp) rfl rfl hl22
          have g39 : act.tmps[39]?.getD undef = .float .f32 q := hI.has 20 39 rfl (hall ⟨20, .data⟩ (by simp) rfl)
          have hB := hC hl22
          have hC2 := hC.step (k := 21) hI.len (by decide) (by decide) ((Below.refl _ _).alloc (Nat.le_refl _) (.cells #[.float .f32 q] 22))
          have hnot2 : listed.getD 21 false = false := hnot
          clear hI hall hnot hcl hC
          refine .inl ⟨wanted_none rfl, ?_⟩
          unfold Oper.wp
          go_simp
          first | refine ⟨_, rfl, fun j u hj hV => ?_, SVe.made hB, hC2⟩ | refine ⟨_, rfl, fun j u hj hV => ?_, SVe.made hB⟩
          rcases j with _ | _ | _ | _ | _ | _ | _ | _ | _ | _ | _ | _ | _ | _ | _ | _ | _ | _ | _ | _ | _ | _ | _ | _ | j
          · exact hV
          · exact hV
          · exact hV
          · exact hV
          · exact hV
          · exact hV
          · exact hV
          · exact hV
          · exact hV
          · exact hV
          · exact hV
          · exact hV
          · exact hV
          · exact hV
          · exact hV
          · exact hV
          · exact hV
          · exact hV
          · exact hV
          · exact hV
          · exact hV
          · first | exact Bool.noConfusion (hnot2.symm.trans hj) | (rw [Array.getD_eq_getD_getElem?] at hnot2; exact Bool.noConfusion (hnot2.symm.trans hj))
          · first | exact Bool.noConfusion (hl22.symm.trans hj) | (rw [Array.getD_eq_getD_getElem?] at hl22; exact Bool.noConfusion (hl22.symm.trans hj))
          · first | exact Bool.noConfusion (hl23.symm.trans hj) | (rw [Array.getD_eq_getD_getElem?] at hl23; exact Bool.noConfusion (hl23.symm.trans hj))
          · exact hV
        · simp at hq; subst hq
          have hl23 : listed.getD 23 false = false := hcl.not (j := 23) (i := 22) (e := ⟨22, .data⟩) rfl (by simp) rfl rfl hnot
          have g19 : act.tmps[19]?.getD undef = u7 := hI.has 0 19 rfl (hall ⟨0, .data⟩ (by simp) rfl)
          obtain ⟨B7, g40, h7b, h7c⟩ := hI.has 21 40 rfl (hall ⟨21, .data⟩ (by simp) rfl)
          have hB := hC hnot
          have hC2 := fun w9 => CFs.done (W := wr) (ap := 22) (ww := w9) hI.len (by decide)
          have hnot2 : listed.getD 22 false = false := hnot
          clear hI hall hnot hcl hC
          refine .inl ⟨wanted_none rfl, ?_⟩
          have HGq := HG.out.below hB
          have hown := HGq
          unfold Gr at hown
          have BWq := below_of HBr.out HBr.out.size hB
          refine wp_append_own _ (.tmp 19) (.tmp 40) 32 rfl w.heap.size 22 i0 (.float .f32 0) 1 4 Try.underlying32 HI.out HZ0.out HZ1.out HZ2.out rfl (by decide) u7 _ _ (by simp [Act.eval, g19]) hown ⟨B7, 0, none⟩ 1 1 [.float .f32 q] (by simp [Act.eval, g40]) rfl ?c1 ?c2 ?c3 ?c4 BWq.size (fun v' w9 hown' hgrow _ => ?_)
          case c1 =>
            intro j u hj
            match j, hj with
            | 0, hj => simp at hj; subst hj; exact (h7c.2 0 _ rfl).1
            | j + 1, hj => simp at hj
          case c2 => intro u hu; simp at hu; subst hu; rfl
          case c3 => have := HLX.out; unfold maxLen; omega
          case c4 => have := HLX.out; omega
          refine ⟨v', rfl, fun j u hj hV => ?_, ⟨by unfold Gr; simpa using hown', BWq.grown hgrow BWq.size (fun k hk => (HGq.ltR' hk).1)⟩, hC2 _⟩
          rcases j with _ | _ | _ | _ | _ | _ | _ | _ | _ | _ | _ | _ | _ | _ | _ | _ | _ | _ | _ | _ | _ | _ | _ | _ | j
          · exact hV
          · exact hV
          · exact hV
          · exact hV
          · exact hV
          · exact hV
          · exact hV
          · exact hV
          · exact hV
          · exact hV
          · exact hV
          · exact hV
          · exact hV
          · exact hV
          · exact hV
          · exact hV
          · exact hV
          · exact hV
          · exact hV
          · exact hV
          · exact hV
          · exact hV.grown hgrow (fun k hk => (HG.out.ltR' hk).2)
          · first | exact Bool.noConfusion (hnot2.symm.trans hj) | (rw [Array.getD_eq_getD_getElem?] at hnot2; exact Bool.noConfusion (hnot2.symm.trans hj))
          · first | exact Bool.noConfusion (hl23.symm.trans hj) | (rw [Array.getD_eq_getD_getElem?] at hl23; exact Bool.noConfusion (hl23.symm.trans hj))
          · exact hV
        · simp at hq; subst hq
          have h8 := hI.has 22 41 rfl (hall ⟨22, .data⟩ (by simp) rfl)
          generalize g41 : act.tmps[41]?.getD undef = v36 at h8
          have hC2 := hC.step (k := 23) hI.len (by decide) (by decide) (Below.refl _ _)
          clear hI hall hnot hcl hC
          refine .inl ⟨wanted_none rfl, ?_⟩
          unfold Oper.wp
          go_simp
          all_goals first | exact ⟨_, rfl, fun _ _ _ h => h, h8, hC2⟩ | exact ⟨_, rfl, fun _ _ _ h => h, h8⟩ | exact ⟨_, rfl, h8, hC2⟩ | exact ⟨_, rfl, h8⟩ | exact ⟨h8, hC2⟩ | exact h8 | exact ⟨fun _ _ _ h => h, h8, hC2⟩ | exact ⟨fun _ _ _ h => h, h8⟩
        · simp at hq
      case hend =>
        intro listed act w9 hI hall
        obtain ⟨g2, b2⟩ := hI.has 23 7 rfl (hall 23 (by decide))
        generalize hv9 : act.tmps[7]?.getD undef = v' at g2
        have g0 := hI.kept 0 (by kernel_rfl)
        conv at g0 => rhs; whnf
        have g1 := hI.kept 1 (by kernel_rfl)
        conv at g1 => rhs; whnf
        have g2 := hI.kept 2 (by kernel_rfl)
        conv at g2 => rhs; whnf
        have g3 : act.tmps[3]?.getD undef = undef := hI.kept 3 (by kernel_rfl)
        have g4 : act.tmps[4]?.getD undef = undef := hI.kept 4 (by kernel_rfl)
        have g5 : act.tmps[5]?.getD undef = undef := hI.kept 5 (by kernel_rfl)
        have g6 := hI.kept 6 (by kernel_rfl)
        conv at g6 => rhs; whnf
        have g9 := hI.kept 9 (by kernel_rfl)
        conv at g9 => rhs; whnf
        have g42 : act.tmps[42]?.getD undef = undef := hI.kept 42 (by kernel_rfl)
        have g8 := hI.kept 8 (by kernel_rfl)
        conv at g8 => rhs; whnf
        have g7 := hv9
        clear hv9
        have hsz : act.tmps.size = 43 := hI.size.trans (by kernel_rfl)
        have hd := hI.defers
        clear hI hall
        obtain ⟨tt, dd⟩ := act
        simp only at g0 g1 g2 g3 g4 g5 g6 g7 g8 g9 g42 hsz hd
        subst hd
        have hl : tt = #[tt[0]?.getD undef, tt[1]?.getD undef, tt[2]?.getD undef, tt[3]?.getD undef, tt[4]?.getD undef, tt[5]?.getD undef, tt[6]?.getD undef, tt[7]?.getD undef, tt[8]?.getD undef, tt[9]?.getD undef, tt[10]?.getD undef, tt[11]?.getD undef, tt[12]?.getD undef, tt[13]?.getD undef, tt[14]?.getD undef, tt[15]?.getD undef, tt[16]?.getD undef, tt[17]?.getD undef, tt[18]?.getD undef, tt[19]?.getD undef, tt[20]?.getD undef, tt[21]?.getD undef, tt[22]?.getD undef, tt[23]?.getD undef, tt[24]?.getD undef, tt[25]?.getD undef, tt[26]?.getD undef, tt[27]?.getD undef, tt[28]?.getD undef, tt[29]?.getD undef, tt[30]?.getD undef, tt[31]?.getD undef, tt[32]?.getD undef, tt[33]?.getD undef, tt[34]?.getD undef, tt[35]?.getD undef, tt[36]?.getD undef, tt[37]?.getD undef, tt[38]?.getD undef, tt[39]?.getD undef, tt[40]?.getD undef, tt[41]?.getD undef, tt[42]?.getD undef] := (arr_lit hsz).trans rfl
        rw [g0, g1, g2, g3, g4, g5, g6, g7, g8, g9, g42] at hl
        clear g0 g1 g2 g3 g4 g5 g6 g7 g8 g9 g42 hsz
        generalize tt[10]?.getD undef = y10 at hl
        generalize tt[11]?.getD undef = y11 at hl
        generalize tt[12]?.getD undef = y12 at hl
        generalize tt[13]?.getD undef = y13 at hl
        generalize tt[14]?.getD undef = y14 at hl
        generalize tt[15]?.getD undef = y15 at hl
        generalize tt[16]?.getD undef = y16 at hl
        generalize tt[17]?.getD undef = y17 at hl
        generalize tt[18]?.getD undef = y18 at hl
        generalize tt[19]?.getD undef = y19 at hl
        generalize tt[20]?.getD undef = y20 at hl
        generalize tt[21]?.getD undef = y21 at hl
        generalize tt[22]?.getD undef = y22 at hl
        generalize tt[23]?.getD undef = y23 at hl
        generalize tt[24]?.getD undef = y24 at hl
        generalize tt[25]?.getD undef = y25 at hl
        generalize tt[26]?.getD undef = y26 at hl
        generalize tt[27]?.getD undef = y27 at hl
        generalize tt[28]?.getD undef = y28 at hl
        generalize tt[29]?.getD undef = y29 at hl
        generalize tt[30]?.getD undef = y30 at hl
        generalize tt[31]?.getD undef = y31 at hl
        generalize tt[32]?.getD undef = y32 at hl
        generalize tt[33]?.getD undef = y33 at hl
        generalize tt[34]?.getD undef = y34 at hl
        generalize tt[35]?.getD undef = y35 at hl
        generalize tt[36]?.getD undef = y36 at hl
        generalize tt[37]?.getD undef = y37 at hl
        generalize tt[38]?.getD undef = y38 at hl
        generalize tt[39]?.getD undef = y39 at hl
        generalize tt[40]?.getD undef = y40 at hl
        generalize tt[41]?.getD undef = y41 at hl
        subst hl
        have HG9 := Lib.hid g2
        have HB9 := Lib.hid b2
        have HX9 : Hid (xs ++ [q] = (sfwX fx fy fr fd fs t sp).take (k + 1)) := Lib.hid (by rw [HXT.out, HXS.out])
        clear g2 b2
        have hn12 := HN12.out
        go_wp2
        go_roundw
        case rel => exact ⟨k + 1, _, by omega, by go_num, HG9, HX9, HB9⟩
        case measure => simp [intOf]; omega
    · have hkn : k = fx.length := by omega
      obtain ⟨A1, c1, g1, rfl, ho⟩ := HG.out.own
      have HE : Hid (xs = sfwX fx fy fr fd fs t sp) := Lib.hid (by have h1 := HXT.out; rw [hkn, List.take_of_length_le (by rw [sfwX_length]; omega)] at h1; exact h1)
      have HOW := Lib.hid ho
      clear ho
      go_wp2
      go_ret
      have e1 := HE.out
      exact ⟨A1, c1, g1, by rw [← e1]; rfl, by rw [← e1]; exact HOW.out, HBr.out⟩
end Go.Proofs.Ytmadlabnhjhfiaa
