/- Forces, thrust, torque, bending and power of a rotor: both sides, put together. No statement is proved here. -/
import Derived.Test.YtahbcpjipomcgaaGreatMgSt
import Derived.Test.YtahbcpjipomcgaaGreatApp
import Derived.Test.YtahbcpjipomcgaaGreatCyc
import Derived.Test.YtahbcpjipomcgaaGreatMarkR
import Derived.Test.YtahbcpjipomcgaaGreatInv6
import Derived.Deep.Cut
import Derived.Laws.AppendOwn
import Derived.Test.YtahbcpjipomcgaaGreatValR
import Derived.Test.YtahbcpjipomcgaaGreatValS
import Derived.Maps.AppendAt
import Derived.Test.YtahbcpjipomcgaaGreatThM
import Derived.RegionTactic
import Derived.BigRegion
namespace Go.Proofs.YtahbcpjipomcgaaGreat
open Go Go.RowKit
def fcA (a l d s : List Nat) (n : Nat) (c : Int) (hub tip wi sp p dn : Nat) (k : Nat) : Bool := stO a l d s n c hub tip (k : Int) wi sp p dn
def fcO (a l d s : List Nat) (n : Nat) (c : Int) (hub tip wi sp p dn : Nat) : Bool := validR a l d s n c hub tip && (posi dn && alls (fcA a l d s n c hub tip wi sp p dn) n)
def fcq1 (a l d s : List Nat) (n : Nat) (c : Int) (hub tip wi sp p dn : Nat) (k : Nat) : Nat := st1 a l d s n c hub tip (k : Int) wi sp p dn
def fcq2 (a l d s : List Nat) (n : Nat) (c : Int) (hub tip wi sp p dn : Nat) (k : Nat) : Nat := st2 a l d s n c hub tip (k : Int) wi sp p dn
def fc1 (a l d s : List Nat) (n : Nat) (c : Int) (hub tip wi sp p dn : Nat) : List Nat := if fcO a l d s n c hub tip wi sp p dn then (List.range n).map (fcq1 a l d s n c hub tip wi sp p dn) else []
def fc2 (a l d s : List Nat) (n : Nat) (c : Int) (hub tip wi sp p dn : Nat) : List Nat := if fcO a l d s n c hub tip wi sp p dn then (List.range n).map (fcq2 a l d s n c hub tip wi sp p dn) else []
section
variable {a l d s : List Nat} {n : Nat} {c : Int} {hub tip wi sp p dn : Nat}
theorem fcO_v (h : validR a l d s n c hub tip = false) : fcO a l d s n c hub tip wi sp p dn = false := by unfold fcO; rw [h]; rfl
theorem fcO_d (h : posi dn = false) : fcO a l d s n c hub tip wi sp p dn = false := by unfold fcO; rw [h]; simp
theorem fcO_a {k : Nat} (h : alls (fcA a l d s n c hub tip wi sp p dn) k = false) (hk : k ≤ n) : fcO a l d s n c hub tip wi sp p dn = false := by unfold fcO; rw [alls_no h hk]; simp
theorem fcO_k {k : Nat} (h : fcA a l d s n c hub tip wi sp p dn k = false) (hk : k < n) : fcO a l d s n c hub tip wi sp p dn = false := fcO_a (k := k + 1) (by simp only [alls, h, Bool.and_false]) hk
theorem validR_n (h : validR a l d s n c hub tip = true) : 2 ≤ n ∧ n ≤ 12 := by
  unfold validR at h
  simp only [Bool.and_eq_true] at h
  have := of_decide_eq_true h.2.1
  unfold sizedR at this
  omega
theorem fcA_c {k : Nat} (h : couB wi sp p = false) : fcA a l d s n c hub tip wi sp p dn k = false := by unfold fcA stO stC floC; rw [h]; simp
theorem fcO_c (hv : validR a l d s n c hub tip = true) (h : couB wi sp p = false) : fcO a l d s n c hub tip wi sp p dn = false := fcO_k (k := 0) (fcA_c h) (by have := validR_n hv; omega)
theorem fcO_yes (hv : validR a l d s n c hub tip = true) (hd : posi dn = true) (h : alls (fcA a l d s n c hub tip wi sp p dn) n = true) : fcO a l d s n c hub tip wi sp p dn = true := by unfold fcO; rw [hv, hd, h]; rfl
theorem fcO_parts (h : fcO a l d s n c hub tip wi sp p dn = true) : validR a l d s n c hub tip = true ∧ posi dn = true ∧ alls (fcA a l d s n c hub tip wi sp p dn) n = true := by
  unfold fcO at h; rw [Bool.and_eq_true, Bool.and_eq_true] at h; exact h
theorem fc_no (h : fcO a l d s n c hub tip wi sp p dn = false) : fc1 a l d s n c hub tip wi sp p dn = [] ∧ fc2 a l d s n c hub tip wi sp p dn = [] := ⟨by unfold fc1; rw [h]; rfl, by unfold fc2; rw [h]; rfl⟩
theorem fc_yes (h : fcO a l d s n c hub tip wi sp p dn = true) : fc1 a l d s n c hub tip wi sp p dn = (List.range n).map (fcq1 a l d s n c hub tip wi sp p dn) ∧ fc2 a l d s n c hub tip wi sp p dn = (List.range n).map (fcq2 a l d s n c hub tip wi sp p dn) := ⟨by unfold fc1; rw [h]; rfl, by unfold fc2; rw [h]; rfl⟩
theorem fc_len (h : fcO a l d s n c hub tip wi sp p dn = true) : (fc1 a l d s n c hub tip wi sp p dn).length = n ∧ (fc2 a l d s n c hub tip wi sp p dn).length = n := ⟨by rw [(fc_yes h).1]; simp, by rw [(fc_yes h).2]; simp⟩
theorem fc_short : (fc1 a l d s n c hub tip wi sp p dn).length ≤ 12 ∧ (fc2 a l d s n c hub tip wi sp p dn).length ≤ 12 := by
  cases h : fcO a l d s n c hub tip wi sp p dn
  · rw [(fc_no h).1, (fc_no h).2]; simp
  · have h1 := fc_len h
    have h2 := (validR_n (fcO_parts h).1).2
    omega
theorem fc_fin {k : Nat} (h : fcA a l d s n c hub tip wi sp p dn k = true) : fin .f32 (fcq1 a l d s n c hub tip wi sp p dn k) = true ∧ fin .f32 (fcq2 a l d s n c hub tip wi sp p dn k) = true := by
  unfold fcA stO at h
  rw [Bool.and_eq_true, Bool.and_eq_true] at h
  obtain ⟨h1, h2, h3⟩ := h
  unfold fcq1 fcq2 st1 st2
  rw [h1]
  simp only [if_true]
  unfold both1 both2
  rw [h2, h3]
  exact ⟨h2, h3⟩
/-- a list that is told by its numbers up to not-a-numbers -/
theorem fc1_of {ys : List Nat} (h : fcO a l d s n c hub tip wi sp p dn = true) (hl : ys.length = n) (hq : ∀ k, k < n → canon .f32 (ys.getD k 0) = fcq1 a l d s n c hub tip wi sp p dn k) : ys = fc1 a l d s n c hub tip wi sp p dn := by
  rw [(fc_yes h).1]
  exact list_exact hl hq (fun k hk => (fc_fin (alls_at (fcO_parts h).2.2 k hk)).1)
theorem fc2_of {ys : List Nat} (h : fcO a l d s n c hub tip wi sp p dn = true) (hl : ys.length = n) (hq : ∀ k, k < n → canon .f32 (ys.getD k 0) = fcq2 a l d s n c hub tip wi sp p dn k) : ys = fc2 a l d s n c hub tip wi sp p dn := by
  rw [(fc_yes h).2]
  exact list_exact hl hq (fun k hk => (fc_fin (alls_at (fcO_parts h).2.2 k hk)).2)
theorem statR_k {k : Nat} (hv : validR a l d s n c hub tip = true) (hk : k < n) : statR a l d s n c hub tip k = true := by
  unfold statR; rw [hv, decide_eq_true (show (0 : Int) ≤ k by omega), decide_eq_true (show (k : Int) < n by omega)]; rfl
end
theorem i_forceK (A L D S : Option Addr) (ca cl cd n cs : Nat) (c : Int) (hub tip : Nat) (a l d s : List Nat) (k : Nat) (wi sp p dn : Nat) (w : World) (h : Rt w A L D S a l d s) (hn : FewR a l d s n) (hv : validR a l d s n c hub tip = true) (hc : couB wi sp p = true) (hd : posi dn = true) (hk : k < n) :
    Calls Tryz.prog 45 #[.agg #[.float .f32 (rad s k), .float .f32 (chd s k), .float .f32 (twi s k), .slice A a.length ca, .slice L l.length cl, .slice D d.length cd, .float .f32 (floatOfInt .f32 c), .float .f32 tip], .agg #[.float .f32 wi, .float .f32 sp, .float .f32 p], .float .f32 dn] w fun e w' => ∃ r t, e = .returned (.agg #[.float .f32 r, .float .f32 t, .bool (fcA a l d s n c hub tip wi sp p dn k)]) ∧ canon .f32 r = fcq1 a l d s n c hub tip wi sp p dn k ∧ canon .f32 t = fcq2 a l d s n c hub tip wi sp p dn k ∧ Below w.heap.size w w' := by
  have hV : validP a l d = true := by unfold validR at hv; rw [Bool.and_eq_true] at hv; exact hv.1
  have hfc : floC a l d s n c hub tip k wi sp p = true := by unfold floC; rw [statR_k hv hk, hc]; rfl
  have hC : stC a l d s n c hub tip k wi sp p dn = gK a l d s c tip k wi sp p := by unfold stC; rw [show ((k : Int).toNat) = k from rfl, hfc, hd, Bool.true_and, Bool.true_and]
  cases hg : gK a l d s c tip k wi sp p
  · obtain ⟨e0, e1, e2⟩ := st_no (hC.trans hg)
    refine (i_forceOn_no _ _ _ _ _ A L D ca cl cd a l d wi sp p dn w h.1 hn.few hV hg).mono ?_
    rintro e w' ⟨rfl, b⟩
    exact ⟨0, 0, by unfold fcA; rw [e0], by unfold fcq1; rw [e1]; exact canon_zero, by unfold fcq2; rw [e2]; exact canon_zero, b⟩
  · have hC' := hC.trans hg
    refine (i_forceOn _ _ _ _ _ A L D ca cl cd a l d wi sp p dn w h.1 hn.few hV hg).mono ?_
    rintro e w' ⟨r, t, rfl, hr, ht, b⟩
    refine ⟨r, t, ?_, ?_, ?_, b⟩
    · unfold fcA stO; rw [hC', Bool.true_and]; rfl
    · unfold fcq1 st1; rw [hC', if_pos rfl]; exact hr
    · unfold fcq2 st2; rw [hC', if_pos rfl]; exact ht
end Go.Proofs.YtahbcpjipomcgaaGreat
namespace Go.Proofs.YtahbcpjipomcgaaGreat
open Go Go.RowKit
theorem BlkL.one {w : World} {B : Nat} {v0 : Value} (h : BlkL w B [v0]) : w.cell? ⟨B, 0, none⟩ = some v0 := (h.2 0 _ rfl).1
/-- the cells of forces -/
def fcs (xs : List (Nat × Nat × Bool)) : List Value := xs.flatMap fun t => [.float .f32 t.1, .float .f32 t.2.1, .bool t.2.2]
theorem fcs_length (xs : List (Nat × Nat × Bool)) : (fcs xs).length = xs.length * 3 := by
  induction xs with
  | nil => rfl
  | cons t ts ih => show (_ :: _ :: _ :: fcs ts).length = _; simp only [List.length_cons, ih]; omega
theorem fcs_snoc (xs : List (Nat × Nat × Bool)) (r t : Nat) (b : Bool) : fcs (xs ++ [(r, t, b)]) = fcs xs ++ [.float .f32 r, .float .f32 t, .bool b] := by unfold fcs; simp
theorem fcs_at (xs : List (Nat × Nat × Bool)) : ∀ k, k < xs.length → (fcs xs)[k * 3]? = some (.float .f32 (loN xs k)) ∧ (fcs xs)[k * 3 + 1]? = some (.float .f32 (hiN xs k)) ∧ (fcs xs)[k * 3 + 2]? = some (.bool (whB xs k)) := by
  induction xs with
  | nil => intro k hk; simp at hk
  | cons t ts ih =>
    intro k hk
    have e : fcs (t :: ts) = .float .f32 t.1 :: .float .f32 t.2.1 :: .bool t.2.2 :: fcs ts := rfl
    rw [e]
    cases k with
    | zero => exact ⟨rfl, rfl, rfl⟩
    | succ k =>
      have := ih k (by simpa using hk)
      rw [show (k + 1) * 3 = k * 3 + 1 + 1 + 1 by omega]
      simp only [List.getElem?_cons_succ]
      exact ⟨this.1.trans rfl, this.2.1.trans rfl, this.2.2.trans rfl⟩
theorem getD_snocC (xs : List (Nat × Nat × Bool)) (x : Nat × Nat × Bool) (j : Nat) (hj : j < xs.length + 1) : (xs ++ [x]).getD j (0, 0, false) = if j = xs.length then x else xs.getD j (0, 0, false) := by
  rw [List.getD_eq_getElem?_getD, List.getD_eq_getElem?_getD, List.getElem?_append]
  split
  · rename_i h
    rw [if_neg (by omega)]
  · rename_i h
    have e : j = xs.length := by omega
    subst e
    simp
/-- a list of forces of the call's own, that may grow -/
def GrF (w : World) (B0 : Nat) (v : Value) (xs : List (Nat × Nat × Bool)) : Prop := w.ownsRow B0 70 3 v xs.length (fcs xs)
theorem GrF.below {w w' : World} {B0 : Nat} {v : Value} {xs : List (Nat × Nat × Bool)} (h : GrF w B0 v xs) (hb : Below w.heap.size w w') : GrF w' B0 v xs := by
  refine ⟨h.1, ?_⟩
  rcases h.2 with hn | ⟨g, cap, cur, rfl, hbg, hgg, rest⟩
  · exact .inl hn
  · refine .inr ⟨g, cap, cur, rfl, hbg, ?_, rest⟩
    rw [hb.block g (Array.getElem?_eq_some_iff.1 hgg).1]
    exact hgg
theorem GrF.next {w0 wr w1 wm : World} {B0 r t : Nat} {b : Bool} {v v' : Value} {xs : List (Nat × Nat × Bool)} (h : GrF wr B0 v xs) (hB : w0.heap.size ≤ B0)
    (ho : w1.ownsRow B0 70 3 v' (xs.length + 1) (fcs xs ++ [.float .f32 r, .float .f32 t, .bool b])) (hm : Below w0.heap.size w0 wm) (hg : wm.grownBy w1 v.ownBlock) : GrF w1 B0 v' (xs ++ [(r, t, b)]) ∧ Below w0.heap.size w0 w1 := by
  refine ⟨by unfold GrF; rw [fcs_snoc, List.length_append]; exact ho, ?_⟩
  have hlt := World.ownsRow.lt h
  exact hm.grown hg hm.size (fun k hk => by have := (hlt k hk).1; omega)
theorem GrF.fl {w : World} {B0 : Nat} {v : Value} {xs : List (Nat × Nat × Bool)} (h : GrF w B0 v xs) : ∃ A cap, v = .slice A xs.length cap ∧ FlC w A xs := by
  rcases h.2 with ⟨rfl, h0⟩ | ⟨g, cap, cur, rfl, hbg, hgg, hnc, hcm, hcs, htake⟩
  · exact ⟨none, 0, by rw [h0], .inl (List.eq_nil_of_length_eq_zero h0)⟩
  · refine ⟨_, cap, rfl, .inr ⟨g, 0, rfl, (Array.getElem?_eq_some_iff.1 hgg).1, fun k hk => ?_⟩⟩
    have hat : ∀ j u, j < xs.length * 3 → (fcs xs)[j]? = some u → w.cell? ⟨g, 0 + j, none⟩ = some u := by
      intro j u hj hu
      rw [Nat.zero_add, cell_of_row w g j cur 70 (0, 0) hgg]
      rw [← htake, List.getElem?_take, if_pos hj] at hu
      simpa using hu
    obtain ⟨h0, h1, h2⟩ := fcs_at xs k hk
    exact ⟨hat _ _ (by omega) h0, by rw [Nat.add_assoc]; exact hat _ _ (by omega) h1, by rw [Nat.add_assoc]; exact hat _ _ (by omega) h2⟩
theorem BlkL.grown {w w' : World} {B : Nat} {vs : List Value} {row : Option Nat} (h : BlkL w B vs) (hg : w.grownBy w' row) (hne : row ≠ some B) : BlkL w' B vs := by
  have hb := hg.block B h.1 (fun e => hne e.symm)
  refine ⟨Nat.lt_of_lt_of_le h.1 hg.size, fun j v hj => ?_⟩
  rw [World.cell?_of_block (a := ⟨B, j, none⟩) hb, World.frozen?_of_block (a := ⟨B, j, none⟩) hb]
  exact h.2 j v hj
theorem fo_info : (Tryz.prog.info? 70).map (fun i => (i.zero, i.size, i.bytes)) = some (some (.agg #[.float .f32 0, .float .f32 0, .bool false]), 3, 12) := by kernel_rfl
theorem i_lof1 (x y : Nat) (z : Bool) (w : World) :
    Calls Tryz.prog 81 #[.agg #[.float .f32 x, .float .f32 y, .bool z]] w fun e w' => e = .returned (.bool (!z)) ∧ Below w.heap.size w w' := by
  have HB : ∀ o1, Hid (Below w.heap.size w (w.alloc o1)) := fun _ => Lib.hid ((Below.refl _ _).alloc (Nat.le_refl _) _)
  go_enter Tryz.func81, Tryz.ntmps81
  go_wp2
  go_ret
  exact ⟨rfl, by repeat (first | exact (HB _).out | refine below_draws ?_ _)⟩
set_option maxHeartbeats 4000000 in
theorem lib_IndexFunc_force (A : Option Addr) (cap : Nat) (xs : List (Nat × Nat × Bool)) (w : World) (h : FlC w A xs) (hn : xs.length ≤ 1048576) :
    Calls Tryz.prog 102 #[.slice A xs.length cap, .func (.func 81) #[] #[]] w fun e w' => ∃ i, e = .returned (.int .i64 i) ∧ decide (0 ≤ i) = !alls (whB xs) xs.length ∧ Below w.heap.size w w' := by
  have HF := Lib.hid h; clear h
  go_enter Tryz.func102, Tryz.ntmps102
  go_wp2
  go_loopw [8] (fun i wr => ∃ k : Nat, k ≤ xs.length ∧ i = .int .i64 k ∧ Hid (alls (whB xs) k = true) ∧ Hid (Below w.heap.size w wr)) (fun i _ => xs.length - (intOf i).toNat)
  case atStart => exact ⟨0, Nat.zero_le _, rfl, rfl, Lib.hid (Below.refl _ _)⟩
  case round =>
    obtain ⟨k, hk, rfl, hr, HB⟩ := hrel
    by_cases hlt : k < xs.length
    · obtain ⟨b, off, rfl, -, hc0, hc1, hc2⟩ := (HF.out.below HB.out).at_ hlt
      have HA : Hid (alls (whB xs) (k + 1) = whB xs k) := Lib.hid (by show (alls _ k && _) = _; rw [hr.out]; rfl)
      have HNo : Hid (alls (whB xs) (k + 1) = false → alls (whB xs) xs.length = false) := Lib.hid (fun h => alls_no h (by omega))
      generalize loN xs k = x at hc0
      generalize hiN xs k = y at hc1
      generalize whB xs k = z at hc2 HA
      go_wp2_with fail
      refine (i_lof1 x y z _).mono ?_
      rintro e w1 ⟨rfl, b1⟩
      have B1 : Hid (Below w.heap.size w w1) := Lib.hid (below_of HB.out HB.out.size b1)
      clear b1
      cases hp : z
      · have HN : Hid (alls (whB xs) xs.length = false) := Lib.hid (HNo.out (by rw [HA.out, hp]))
        clear hp
        go_wp2
        go_ret
        exact ⟨_, rfl, by rw [HN.out]; simp, B1.out⟩
      · have HY : Hid (alls (whB xs) (k + 1) = true) := Lib.hid (by rw [HA.out, hp])
        clear hp
        go_wp2
        go_roundw
        case rel => exact ⟨k + 1, by omega, by go_num, HY, B1⟩
        case measure => simp [intOf]; omega
    · have hkk : k = xs.length := by omega
      subst hkk
      go_wp2
      go_ret
      exact ⟨_, rfl, by rw [hr.out]; rfl, HB.out⟩
theorem lib_ContainsFunc_force (A : Option Addr) (cap : Nat) (xs : List (Nat × Nat × Bool)) (w : World) (h : FlC w A xs) (hn : xs.length ≤ 1048576) :
    Calls Tryz.prog 80 #[.slice A xs.length cap, .func (.func 81) #[] #[]] w fun e w' => e = .returned (.bool (!alls (whB xs) xs.length)) ∧ Below w.heap.size w w' := by
  have HF := Lib.hid h; clear h
  go_enter Tryz.func80, Tryz.ntmps80
  go_wp2_with fail
  refine (lib_IndexFunc_force A cap xs _ HF.out hn).mono ?_
  rintro e w' ⟨i, rfl, hi, b1⟩
  have HI := Lib.hid hi; clear hi
  have B1 := Lib.hid b1; clear b1
  go_wp2
  go_ret
  exact ⟨by rw [← HI.out]; rfl, B1.out⟩
set_option maxHeartbeats 4000000 in
theorem i_loflo (B k : Nat) (A : Option Addr) (cap : Nat) (xs : List (Nat × Nat × Bool)) (w : World) (h : FlC w A xs) (k0 : w.cell? ⟨B, 0, none⟩ = some (.slice A xs.length cap)) (hk : k < xs.length) (_hn : xs.length ≤ 12) :
    Calls Tryz.prog 82 #[.int .i64 k, .pointer (some ⟨B, 0, none⟩)] w fun e w' => ∃ r, e = .returned (.float .f32 r) ∧ canon .f32 r = canon .f32 (loN xs k) ∧ Below w.heap.size w w' := by
  obtain ⟨b, off, rfl, -, hc0, hc1, -⟩ := h.at_ hk
  generalize loN xs k = x at hc0 ⊢
  clear h
  go_enter Tryz.func82, Tryz.ntmps82
  go_wp2
  go_ret
  exact ⟨_, rfl, rfl, by repeat (first | exact Below.refl _ _ | refine below_draws ?_ _)⟩
set_option maxHeartbeats 4000000 in
set_option maxRecDepth 100000 in
theorem i_listOf_lo (c0 : Value) (q : Nat → Nat) (n : Nat) (w : World) (hn : n ≤ 1048576)
    (hat : ∀ k, k < n → ∀ wr, Below w.heap.size w wr → Calls Tryz.prog 82 #[.int .i64 k, c0] wr fun e w' => ∃ r, e = .returned (.float .f32 r) ∧ canon .f32 r = q k ∧ Below wr.heap.size wr w') :
    Calls Tryz.prog 56 #[.int .i64 n, .func (.func 82) #[] #[c0]] w fun e w' => ∃ (A : Option Addr) (xs : List Nat), e = .returned (.slice A n n) ∧ xs.length = n ∧ Fl w' A xs ∧ (∀ k, k < n → canon .f32 (xs.getD k 0) = q k) ∧ Below w.heap.size w w' ∧ A = some ⟨w.heap.size, 0, none⟩ ∧ Own w' w.heap.size xs := by
  have hmk := make_f32 n w hn
  have HA := Lib.hid hat; clear hat
  go_enter Tryz.func56, Tryz.ntmps56
  go_wp2
  go_loopw [11] (fun i wr => ∃ (k : Nat) (ys : List Nat), k ≤ n ∧ i = .int .i64 k ∧ FlNew w wr w.heap.size n k ys ∧ ys.length = n ∧ Hid (∀ j, j < k → canon .f32 (ys.getD j 0) = q j)) (fun i _ => n - (intOf i).toNat)
  case atStart => exact ⟨0, List.replicate n 0, Nat.zero_le _, rfl, FlNew.start .., by simp, Lib.hid (fun j hj => absurd hj (Nat.not_lt_zero j))⟩
  case round =>
    obtain ⟨k, ys, hk, rfl, hnew, hlen, hq⟩ := hrel
    clear hmk
    by_cases hlt : k < n
    · have hcall := HA.out k hlt _ hnew.1
      have HN := Lib.hid hnew; clear hnew
      have hwr : IntKind.i64.wrap ((k : Int) + 1) = (k : Int) + 1 := IntWalk.i64_in _ (by omega)
      go_wp2_with fail
      refine hcall.mono ?_
      rintro e w1 ⟨r, rfl, hr, b1⟩
      have hn1 := HN.out.below b1
      obtain ⟨hc2, hc3⟩ := hn1.2.2.2 k hlt
      rw [if_neg (by omega)] at hc2
      have hst := (hn1.congr (ys := ys.set k r) (fun j hj => by rw [getD_lset (by omega), if_neg (by omega)])).step hlt
      rw [getD_lset (by omega), if_pos rfl] at hst
      have HS := Lib.hid hst
      have HQ : Hid (∀ j, j < k + 1 → canon .f32 ((ys.set k r).getD j 0) = q j) := Lib.hid (fun j hj => by
        rw [getD_lset (by omega)]
        by_cases e : k = j
        · rw [if_pos e, hr, e]
        · rw [if_neg e]; exact hq.out j (by omega))
      clear hst hn1 hr b1 hcall
      go_wp2
      go_roundw
      case rel => exact ⟨k + 1, ys.set k r, by omega, by go_num, HS.out, by simp [hlen], HQ⟩
      case measure => simp [intOf]; omega
    · have HN := Lib.hid hnew; clear hnew
      have hkk : k = n := by omega
      subst hkk
      go_wp2
      go_ret
      exact ⟨_, ys, rfl, hlen, by subst hlen; exact HN.out.done (Nat.le_refl _), hq.out, HN.out.1, rfl, by subst hlen; exact Own.of_new HN.out (Nat.le_refl _)⟩
set_option maxHeartbeats 4000000 in
theorem i_lofhi (B k : Nat) (A : Option Addr) (cap : Nat) (xs : List (Nat × Nat × Bool)) (w : World) (h : FlC w A xs) (k0 : w.cell? ⟨B, 0, none⟩ = some (.slice A xs.length cap)) (hk : k < xs.length) (_hn : xs.length ≤ 12) :
    Calls Tryz.prog 83 #[.int .i64 k, .pointer (some ⟨B, 0, none⟩)] w fun e w' => ∃ r, e = .returned (.float .f32 r) ∧ canon .f32 r = canon .f32 (hiN xs k) ∧ Below w.heap.size w w' := by
  obtain ⟨b, off, rfl, -, hc0, hc1, -⟩ := h.at_ hk
  generalize hiN xs k = x at hc1 ⊢
  clear h
  go_enter Tryz.func83, Tryz.ntmps83
  go_wp2
  go_ret
  exact ⟨_, rfl, rfl, by repeat (first | exact Below.refl _ _ | refine below_draws ?_ _)⟩
set_option maxHeartbeats 4000000 in
set_option maxRecDepth 100000 in
theorem i_listOf_hi (c0 : Value) (q : Nat → Nat) (n : Nat) (w : World) (hn : n ≤ 1048576)
    (hat : ∀ k, k < n → ∀ wr, Below w.heap.size w wr → Calls Tryz.prog 83 #[.int .i64 k, c0] wr fun e w' => ∃ r, e = .returned (.float .f32 r) ∧ canon .f32 r = q k ∧ Below wr.heap.size wr w') :
    Calls Tryz.prog 56 #[.int .i64 n, .func (.func 83) #[] #[c0]] w fun e w' => ∃ (A : Option Addr) (xs : List Nat), e = .returned (.slice A n n) ∧ xs.length = n ∧ Fl w' A xs ∧ (∀ k, k < n → canon .f32 (xs.getD k 0) = q k) ∧ Below w.heap.size w w' ∧ A = some ⟨w.heap.size, 0, none⟩ ∧ Own w' w.heap.size xs := by
  have hmk := make_f32 n w hn
  have HA := Lib.hid hat; clear hat
  go_enter Tryz.func56, Tryz.ntmps56
  go_wp2
  go_loopw [11] (fun i wr => ∃ (k : Nat) (ys : List Nat), k ≤ n ∧ i = .int .i64 k ∧ FlNew w wr w.heap.size n k ys ∧ ys.length = n ∧ Hid (∀ j, j < k → canon .f32 (ys.getD j 0) = q j)) (fun i _ => n - (intOf i).toNat)
  case atStart => exact ⟨0, List.replicate n 0, Nat.zero_le _, rfl, FlNew.start .., by simp, Lib.hid (fun j hj => absurd hj (Nat.not_lt_zero j))⟩
  case round =>
    obtain ⟨k, ys, hk, rfl, hnew, hlen, hq⟩ := hrel
    clear hmk
    by_cases hlt : k < n
    · have hcall := HA.out k hlt _ hnew.1
      have HN := Lib.hid hnew; clear hnew
      have hwr : IntKind.i64.wrap ((k : Int) + 1) = (k : Int) + 1 := IntWalk.i64_in _ (by omega)
      go_wp2_with fail
      refine hcall.mono ?_
      rintro e w1 ⟨r, rfl, hr, b1⟩
      have hn1 := HN.out.below b1
      obtain ⟨hc2, hc3⟩ := hn1.2.2.2 k hlt
      rw [if_neg (by omega)] at hc2
      have hst := (hn1.congr (ys := ys.set k r) (fun j hj => by rw [getD_lset (by omega), if_neg (by omega)])).step hlt
      rw [getD_lset (by omega), if_pos rfl] at hst
      have HS := Lib.hid hst
      have HQ : Hid (∀ j, j < k + 1 → canon .f32 ((ys.set k r).getD j 0) = q j) := Lib.hid (fun j hj => by
        rw [getD_lset (by omega)]
        by_cases e : k = j
        · rw [if_pos e, hr, e]
        · rw [if_neg e]; exact hq.out j (by omega))
      clear hst hn1 hr b1 hcall
      go_wp2
      go_roundw
      case rel => exact ⟨k + 1, ys.set k r, by omega, by go_num, HS.out, by simp [hlen], HQ⟩
      case measure => simp [intOf]; omega
    · have HN := Lib.hid hnew; clear hnew
      have hkk : k = n := by omega
      subst hkk
      go_wp2
      go_ret
      exact ⟨_, ys, rfl, hlen, by subst hlen; exact HN.out.done (Nat.le_refl _), hq.out, HN.out.1, rfl, by subst hlen; exact Own.of_new HN.out (Nat.le_refl _)⟩
set_option maxHeartbeats 8000000 in
set_option maxRecDepth 100000 in
theorem i_listsOfForces (A : Option Addr) (cap : Nat) (xs : List (Nat × Nat × Bool)) (w : World) (h : FlC w A xs) (hn : xs.length ≤ 12) :
    Calls Tryz.prog 46 #[.slice A xs.length cap] w fun e w' => ∃ (R1 R2 : Option Addr) (c1 c2 g1 g2 : Nat) (ys zs : List Nat), e = .returned (.tuple #[.slice R1 ys.length c1, .slice R2 zs.length c2, .bool (alls (whB xs) xs.length)]) ∧ OwnR2 w' w.heap.size R1 R2 g1 g2 ys zs ∧ (alls (whB xs) xs.length = false → ys = [] ∧ zs = []) ∧ (alls (whB xs) xs.length = true → ys.length = xs.length ∧ zs.length = xs.length ∧ ∀ k, k < xs.length → canon .f32 (ys.getD k 0) = canon .f32 (loN xs k) ∧ canon .f32 (zs.getD k 0) = canon .f32 (hiN xs k)) ∧ Below w.heap.size w w' := by
  have HF := Lib.hid h; clear h
  obtain ⟨w0, hw0⟩ : ∃ q, q = w.alloc (.cells #[.slice A xs.length cap] 66) := ⟨_, rfl⟩
  have B0 : Hid (Below w.heap.size w w0) := Lib.hid (by rw [hw0]; exact (Below.refl _ _).alloc (Nat.le_refl _) _)
  have Z0 : Hid (w0.heap.size = w.heap.size + 1) := Lib.hid (by rw [hw0]; simp)
  have K0 : Hid (BlkL w0 w.heap.size [.slice A xs.length cap]) := Lib.hid (by rw [hw0]; exact blkL_at w #[.slice A xs.length cap] _ rfl)
  have k0 := K0.out.one
  go_enter Tryz.func46, Tryz.ntmps46
  go_upto_region 1 with fail
  rw [← hw0]
  clear hw0
  go_wp2_with fail
  refine (lib_ContainsFunc_force A cap xs _ (HF.out.below B0.out) (by omega)).mono ?_
  rintro e w1 ⟨rfl, b1⟩
  have B1 : Hid (Below w.heap.size w w1) := Lib.hid (below_of B0.out B0.out.size b1)
  have K1 : Hid (BlkL w1 w.heap.size [.slice A xs.length cap]) := Lib.hid (K0.out.below b1)
  clear b1 k0
  have k0 := K1.out.one
  cases hp : alls (whB xs) xs.length
  · have HX := Lib.hid hp
    clear hp
    go_wp2
    refine bodyPost_ret (results_tmp3 rfl _ _ _) rfl ?_
    exact ⟨none, none, 0, 0, 0, 1, [], [], by rw [HX.out]; rfl, ⟨.inl rfl, .inl rfl, by decide⟩, fun _ => ⟨rfl, rfl⟩, fun hh => absurd (HX.out.symm.trans hh) (by decide), B1.out⟩
  · have HX := Lib.hid hp
    clear hp
    go_wp2_with fail
    refine (i_listOf_lo _ (fun k => canon .f32 (loN xs k)) xs.length _ (by omega) (fun k hk wr hb => i_loflo w.heap.size k A cap xs wr (HF.out.below (below_of B1.out B1.out.size hb)) (K1.out.below hb).one hk hn)).mono ?_
    rintro e w2 ⟨A1, ys, rfl, hy, -, hqy, b2, rfl, oy⟩
    have B2 : Hid (Below w.heap.size w w2) := Lib.hid (below_of B1.out B1.out.size b2)
    have K2 : Hid (BlkL w2 w.heap.size [.slice A xs.length cap]) := Lib.hid (K1.out.below b2)
    have OY := Lib.hid oy
    have HY := Lib.hid hy
    have HQ := Lib.hid hqy
    have Z1 : Hid (w.heap.size ≤ w1.heap.size) := Lib.hid B1.out.size
    clear b2 oy hy hqy k0
    have k0 := K2.out.one
    go_wp2_with fail
    refine (i_listOf_hi _ (fun k => canon .f32 (hiN xs k)) xs.length _ (by omega) (fun k hk wr hb => i_lofhi w.heap.size k A cap xs wr (HF.out.below (below_of B2.out B2.out.size hb)) (K2.out.below hb).one hk hn)).mono ?_
    rintro e w3 ⟨A2, zs, rfl, hz, -, hqz, b3, rfl, oz⟩
    have B3 : Hid (Below w.heap.size w w3) := Lib.hid (below_of B2.out B2.out.size b3)
    have OZ := Lib.hid oz
    have HZ := Lib.hid hz
    have HQ2 := Lib.hid hqz
    have OY2 : Hid (Own w3 w1.heap.size ys) := Lib.hid (OY.out.below b3)
    have Z2 : Hid (w1.heap.size < w2.heap.size) := Lib.hid OY.out.1
    clear b3 oz hz hqz k0
    go_wp2
    refine bodyPost_ret (results_tmp3 rfl _ _ _) rfl ?_
    refine ⟨some ⟨w1.heap.size, 0, none⟩, some ⟨w2.heap.size, 0, none⟩, xs.length, xs.length, w1.heap.size, w2.heap.size, ys, zs, ?_, OwnR2.of OY2.out OZ.out Z1.out Z2.out, fun hh => absurd (HX.out.symm.trans hh) (by decide), fun _ => ⟨HY.out, HZ.out, fun k hk => ⟨HQ.out k hk, HQ2.out k hk⟩⟩, B3.out⟩
    rw [HY.out, HZ.out, HX.out]; rfl
end Go.Proofs.YtahbcpjipomcgaaGreat
namespace Go.Proofs.YtahbcpjipomcgaaGreat
open Go Go.RowKit
theorem OwnR2.baseN {w : World} {B B0 b1 b2 : Nat} {A L : Option Addr} {a l : List Nat} (h : OwnR2 w B0 A L b1 b2 a l) (hB : B ≤ B0) : OwnR2 w B A L b1 b2 a l :=
  ⟨h.1.imp id (fun ⟨x, y, z⟩ => ⟨x, Nat.le_trans hB y, z⟩), h.2.1.imp id (fun ⟨x, y, z⟩ => ⟨x, Nat.le_trans hB y, z⟩), h.2.2⟩
/-- worlds of a region that appends: as they were, but for new blocks, until it does -/
def CF (W : World) (ap : Nat) (listed : Array Bool) (ww : World) : Prop := listed.getD ap false = false → Below W.heap.size W ww
theorem CF.start (W : World) (ap n : Nat) : CF W ap (Array.replicate n false) { W with drawn := W.drawn + 1 } := fun _ => (Below.refl _ _).drew
theorem CF.step {W ww ww' : World} {ap k n : Nat} {listed : Array Bool} (h : CF W ap listed ww) (hn : listed.size = n) (hi : k < n) (hk : k ≠ ap) (hb : Below ww.heap.size ww ww') : CF W ap (listed.setIfInBounds k true) ww' := by
  intro hl
  rw [getD_set (show k < listed.size by omega), if_neg hk] at hl
  exact below_of (h hl) (h hl).size hb
theorem CF.done {W ww : World} {ap n : Nat} {listed : Array Bool} (hn : listed.size = n) (hi : ap < n) : CF W ap (listed.setIfInBounds ap true) ww := by
  intro hl
  rw [getD_set (show ap < listed.size by omega), if_pos rfl] at hl
  cases hl
/-- what the operations of the loop's round leave: a force, a slice of it, the list with it -/
def FV6 (q1 q2 : Nat) (bk : Bool) (v : Value) : Prop := ∃ r t, v = .agg #[.float .f32 r, .float .f32 t, .bool bk] ∧ canon .f32 r = q1 ∧ canon .f32 t = q2
theorem FV6.mk' {q1 q2 r t : Nat} {bk : Bool} (h1 : canon .f32 r = q1) (h2 : canon .f32 t = q2) : FV6 q1 q2 bk (.agg #[.float .f32 r, .float .f32 t, .bool bk]) := ⟨r, t, rfl, h1, h2⟩
def FV7 (wz : World) (q1 q2 : Nat) (bk : Bool) (w : World) (v : Value) : Prop := ∃ B r t, v = .slice (some ⟨B, 0, none⟩) 1 1 ∧ canon .f32 r = q1 ∧ canon .f32 t = q2 ∧ wz.heap.size ≤ B ∧ BlkL w B [.float .f32 r, .float .f32 t, .bool bk]
theorem FV7.mk' {wz w : World} {q1 q2 r t B : Nat} {bk : Bool} (h1 : canon .f32 r = q1) (h2 : canon .f32 t = q2) (h3 : wz.heap.size ≤ B) (h4 : BlkL w B [.float .f32 r, .float .f32 t, .bool bk]) : FV7 wz q1 q2 bk w (.slice (some ⟨B, 0, none⟩) 1 1) := ⟨B, r, t, rfl, h1, h2, h3, h4⟩
theorem FV7.alloc {wz w : World} {q1 q2 : Nat} {bk : Bool} {v : Value} (h : FV7 wz q1 q2 bk w v) (o : Obj) : FV7 wz q1 q2 bk (w.alloc o) v := by
  obtain ⟨B, r, t, e, h1, h2, h3, h4⟩ := h
  exact ⟨B, r, t, e, h1, h2, h3, h4.alloc o⟩
theorem FV7.grown {wz w w' : World} {q1 q2 : Nat} {bk : Bool} {v : Value} {row : Option Nat} (h : FV7 wz q1 q2 bk w v) (hg : w.grownBy w' row) (hne : ∀ B, wz.heap.size ≤ B → row ≠ some B) : FV7 wz q1 q2 bk w' v := by
  obtain ⟨B, r, t, e, h1, h2, h3, h4⟩ := h
  exact ⟨B, r, t, e, h1, h2, h3, h4.grown hg (hne B h3)⟩
def FV8 (w3 : World) (xs : List (Nat × Nat × Bool)) (q1 q2 : Nat) (bk : Bool) (w : World) (v : Value) : Prop := ∃ r t, canon .f32 r = q1 ∧ canon .f32 t = q2 ∧ GrF w w3.heap.size v (xs ++ [(r, t, bk)]) ∧ Below w3.heap.size w3 w
theorem FV8.mk' {w3 w : World} {xs : List (Nat × Nat × Bool)} {q1 q2 r t : Nat} {bk : Bool} {v : Value} (h1 : canon .f32 r = q1) (h2 : canon .f32 t = q2) (h3 : GrF w w3.heap.size v (xs ++ [(r, t, bk)])) (h4 : Below w3.heap.size w3 w) : FV8 w3 xs q1 q2 bk w v := ⟨r, t, h1, h2, h3, h4⟩
/-- the first k forces, as they are told -/
def Tld (q1 q2 : Nat → Nat) (b : Nat → Bool) (xs : List (Nat × Nat × Bool)) (k : Nat) : Prop := xs.length = k ∧ ∀ j, j < k → canon .f32 (loN xs j) = q1 j ∧ canon .f32 (hiN xs j) = q2 j ∧ whB xs j = b j
theorem Tld.nil (q1 q2 : Nat → Nat) (b : Nat → Bool) : Tld q1 q2 b [] 0 := ⟨rfl, fun j hj => by omega⟩
theorem Tld.snoc {q1 q2 : Nat → Nat} {bq : Nat → Bool} {xs : List (Nat × Nat × Bool)} {k r t : Nat} {b : Bool} (h : Tld q1 q2 bq xs k) (h1 : canon .f32 r = q1 k) (h2 : canon .f32 t = q2 k) (h3 : b = bq k) : Tld q1 q2 bq (xs ++ [(r, t, b)]) (k + 1) := by
  obtain ⟨e, h⟩ := h
  refine ⟨by simp [e], fun j hj => ?_⟩
  unfold loN hiN whB
  rw [getD_snocC _ _ _ (by rw [e]; exact hj), e]
  by_cases g : j = k
  · subst g; rw [if_pos rfl]; exact ⟨h1, h2, h3⟩
  · rw [if_neg g]; exact h j (by omega)
theorem alls_congr {p q : Nat → Bool} : ∀ n, (∀ k, k < n → p k = q k) → alls p n = alls q n := by
  intro n; induction n with
  | zero => intro _; rfl
  | succ n ih => intro h; simp only [alls, ih (fun k hk => h k (by omega)), h n (by omega)]
theorem Tld.all {q1 q2 : Nat → Nat} {b : Nat → Bool} {xs : List (Nat × Nat × Bool)} {k : Nat} (h : Tld q1 q2 b xs k) : alls (whB xs) xs.length = alls b k := by
  rw [h.1]; exact alls_congr k (fun j hj => (h.2 j hj).2.2)
set_option maxHeartbeats 16000000 in
set_option maxRecDepth 100000 in
theorem i_ForcesOfRotor (A L D S : Option Addr) (ca cl cd n cs : Nat) (c : Int) (hub tip : Nat) (a l d s : List Nat) (wi sp p dn : Nat) (w : World) (h : Rt w A L D S a l d s) (hn : FewR a l d s n) :
    Calls Tryz.prog 14 #[.agg #[.slice A a.length ca, .slice L l.length cl, .slice D d.length cd, .slice S n cs, .int .i64 c, .float .f32 hub, .float .f32 tip], .float .f32 wi, .float .f32 sp, .float .f32 p, .float .f32 dn] w fun e w' => ∃ (R1 R2 : Option Addr) (c1 c2 g1 g2 : Nat), e = .returned (.tuple #[.slice R1 (fc1 a l d s n c hub tip wi sp p dn).length c1, .slice R2 (fc2 a l d s n c hub tip wi sp p dn).length c2, .bool (fcO a l d s n c hub tip wi sp p dn)]) ∧ OwnR2 w' w.heap.size R1 R2 g1 g2 (fc1 a l d s n c hub tip wi sp p dn) (fc2 a l d s n c hub tip wi sp p dn) ∧ Below w.heap.size w w' := by
  obtain ⟨i0, hi, hz0, hz1, hz2⟩ := info_parts fo_info
  have HI := Lib.hid hi
  have HZ0 := Lib.hid hz0
  have HZ1 := Lib.hid hz1
  have HZ2 := Lib.hid hz2
  have HN := Lib.hid hn
  have HSL := Lib.hid hn.1
  have HP := Lib.hid h
  clear h hn
  obtain ⟨w0, hw0⟩ : ∃ q, q = (w.alloc (.cells #[.slice A a.length ca, .slice L l.length cl, .slice D d.length cd, .slice S n cs, .int .i64 c, .float .f32 hub, .float .f32 tip] 35)).alloc (.cells #[.float .f32 wi, .float .f32 sp, .float .f32 p] 62) := ⟨_, rfl⟩
  have B0 : Hid (Below w.heap.size w w0) := Lib.hid (by rw [hw0]; exact ((Below.refl _ _).alloc (Nat.le_refl _) _).alloc (by simp) _)
  have K0 : Hid (BlkL w0 w.heap.size [.slice A a.length ca, .slice L l.length cl, .slice D d.length cd, .slice S n cs, .int .i64 c, .float .f32 hub, .float .f32 tip]) := Lib.hid (by rw [hw0]; exact (blkL_at w #[.slice A a.length ca, .slice L l.length cl, .slice D d.length cd, .slice S n cs, .int .i64 c, .float .f32 hub, .float .f32 tip] _ rfl).alloc _)
  have KC0 : Hid (BlkL w0 (w.heap.size + 1) [.float .f32 wi, .float .f32 sp, .float .f32 p]) := Lib.hid (by rw [hw0]; exact blkL_at (w.alloc _) #[.float .f32 wi, .float .f32 sp, .float .f32 p] _ (by simp))
  have k0 := (K0.out.2 0 _ rfl).1
  have k1 := (K0.out.2 1 _ rfl).1
  have k2 := (K0.out.2 2 _ rfl).1
  have k3 := (K0.out.2 3 _ rfl).1
  have k4 := (K0.out.2 4 _ rfl).1
  have k5 := (K0.out.2 5 _ rfl).1
  have k6 := (K0.out.2 6 _ rfl).1
  go_enter Tryz.func14, Tryz.ntmps14
  go_upto_region 2 with fail
  rw [← hw0]
  clear hw0
  go_wp2_with fail
  refine (i_ValidRotor A L D S ca cl cd n cs c hub tip a l d s _ (HP.out.below B0.out) HN.out).mono ?_
  rintro e w1 ⟨rfl, b1⟩
  clear k0 k1 k2 k3 k4 k5 k6
  have B1 : Hid (Below w.heap.size w w1) := Lib.hid (below_of B0.out B0.out.size b1)
  have K1 : Hid (BlkL w1 w.heap.size [.slice A a.length ca, .slice L l.length cl, .slice D d.length cd, .slice S n cs, .int .i64 c, .float .f32 hub, .float .f32 tip]) := Lib.hid (K0.out.below b1)
  have KC1 : Hid (BlkL w1 (w.heap.size + 1) [.float .f32 wi, .float .f32 sp, .float .f32 p]) := Lib.hid (KC0.out.below b1)
  clear b1
  cases hv : validR a l d s n c hub tip
  · skip
    have HNo : Hid (fcO a l d s n c hub tip wi sp p dn = false) := Lib.hid (fcO_v hv)
    go_wp2
    refine bodyPost_ret (results_tmp3 rfl _ _ _) rfl ?_
    exact ⟨none, none, 0, 0, 0, 1, by rw [HNo.out, (fc_no HNo.out).1, (fc_no HNo.out).2]; rfl, by rw [(fc_no HNo.out).1, (fc_no HNo.out).2]; exact ⟨.inl rfl, .inl rfl, by decide⟩, B1.out⟩
  · have HV := Lib.hid hv
    clear hv
    have c0 := (KC1.out.2 0 _ rfl).1
    have c1 := (KC1.out.2 1 _ rfl).1
    have c2 := (KC1.out.2 2 _ rfl).1
    go_wp2_with fail
    refine (i_isCourse _ _ _ _).mono ?_
    rintro e w2 ⟨rfl, b2⟩
    clear c0 c1 c2
    have B2 : Hid (Below w.heap.size w w2) := Lib.hid (below_of B1.out B1.out.size b2)
    have K2 : Hid (BlkL w2 w.heap.size [.slice A a.length ca, .slice L l.length cl, .slice D d.length cd, .slice S n cs, .int .i64 c, .float .f32 hub, .float .f32 tip]) := Lib.hid (K1.out.below b2)
    have KC2 : Hid (BlkL w2 (w.heap.size + 1) [.float .f32 wi, .float .f32 sp, .float .f32 p]) := Lib.hid (KC1.out.below b2)
    clear b2
    cases hc : couB wi sp p
    · skip
      have HNo : Hid (fcO a l d s n c hub tip wi sp p dn = false) := Lib.hid (fcO_c HV.out hc)
      go_wp2
      refine bodyPost_ret (results_tmp3 rfl _ _ _) rfl ?_
      exact ⟨none, none, 0, 0, 0, 1, by rw [HNo.out, (fc_no HNo.out).1, (fc_no HNo.out).2]; rfl, by rw [(fc_no HNo.out).1, (fc_no HNo.out).2]; exact ⟨.inl rfl, .inl rfl, by decide⟩, B2.out⟩
    · have HC := Lib.hid hc
      clear hc
      go_wp2_with fail
      refine (i_isPositive _ _).mono ?_
      rintro e w3 ⟨m1, rfl, hw3⟩
      have b3 : Below w2.heap.size w2 w3 := by rw [hw3]; exact below_draws (Below.refl _ _) _
      clear hw3
      have B3 : Hid (Below w.heap.size w w3) := Lib.hid (below_of B2.out B2.out.size b3)
      have K3 : Hid (BlkL w3 w.heap.size [.slice A a.length ca, .slice L l.length cl, .slice D d.length cd, .slice S n cs, .int .i64 c, .float .f32 hub, .float .f32 tip]) := Lib.hid (K2.out.below b3)
      have KC3 : Hid (BlkL w3 (w.heap.size + 1) [.float .f32 wi, .float .f32 sp, .float .f32 p]) := Lib.hid (KC2.out.below b3)
      clear b3
      cases hd : posi dn
      · skip
        have HNo : Hid (fcO a l d s n c hub tip wi sp p dn = false) := Lib.hid (fcO_d hd)
        go_wp2
        refine bodyPost_ret (results_tmp3 rfl _ _ _) rfl ?_
        exact ⟨none, none, 0, 0, 0, 1, by rw [HNo.out, (fc_no HNo.out).1, (fc_no HNo.out).2]; rfl, by rw [(fc_no HNo.out).1, (fc_no HNo.out).2]; exact ⟨.inl rfl, .inl rfl, by decide⟩, B3.out⟩
      · have HD := Lib.hid hd
        clear hd
        obtain ⟨hn2, hn12⟩ := validR_n HV.out
        have hmk := run_make (P := Tryz.prog) w3 66 70 i0 (.agg #[.float .f32 0, .float .f32 0, .bool false]) (by kernel_rfl) hi hz0 .i64 .i64 0 n (by omega) (by omega) (by rw [hz2]; omega) (by omega)
        rw [hz1] at hmk
        have hmk' : (Instr.makeSlice 66 (.int .i64 0) (.int .i64 n)).run Tryz.prog w3 = .ok (.slice (some ⟨w3.heap.size, 0, none⟩) 0 n) (w3.alloc (.cells (madeCells #[.float .f32 0, .float .f32 0, .bool false] (n * 3)) 70)) := by
          rw [hmk]; simp [Value.cells]
        clear hmk
        have HST : Hid (GrF (w3.alloc (.cells (madeCells #[.float .f32 0, .float .f32 0, .bool false] (n * 3)) 70)) w3.heap.size (.slice (some ⟨w3.heap.size, 0, none⟩) 0 n) []) := Lib.hid (World.ownsRow_made _ _ _ (Nat.le_refl _) (by unfold maxLen; omega) (by simp [madeCells]))
        have HB0 : Hid (Below w3.heap.size w3 (w3.alloc (.cells (madeCells #[.float .f32 0, .float .f32 0, .bool false] (n * 3)) 70))) := Lib.hid ((Below.refl _ _).alloc (Nat.le_refl _) _)
        have k3 := (K3.out.2 3 _ rfl).1
        have k3' := fun o => ((K3.out.alloc o).2 3 _ rfl).1
        go_wp2
        clear hmk' k3 k3'
        go_loopw [14, 41] (fun v i wr => ∃ (k : Nat) (xs : List (Nat × Nat × Bool)), k ≤ n ∧ i = .int .i64 k ∧ Hid (GrF wr w3.heap.size v xs) ∧ Hid (xs.length = k) ∧ Hid (Tld (fcq1 a l d s n c hub tip wi sp p dn) (fcq2 a l d s n c hub tip wi sp p dn) (fcA a l d s n c hub tip wi sp p dn) xs k) ∧ Hid (Below w3.heap.size w3 wr)) (fun _ i _ => n - (intOf i).toNat)
        case atStart => exact ⟨0, [], Nat.zero_le _, rfl, HST, rfl, Lib.hid (Tld.nil _ _ _), HB0⟩
        case round =>
          obtain ⟨k, xs, hk, rfl, HG, HL, HM, HBW⟩ := hrel
          clear HST HB0
          by_cases hlt : k < n
          · have HB2 : Hid (Below w.heap.size w wr) := Lib.hid (below_of B3.out B3.out.size HBW.out)
            obtain ⟨b, off, rfl, hb, hc0⟩ := HP.out.2.at_ (k := k * 3) (by rw [HSL.out]; omega)
            have hc1 := HP.out.2.same rfl (k := k * 3 + 1) (by rw [HSL.out]; omega)
            have hc2 := HP.out.2.same rfl (k := k * 3 + 2) (by rw [HSL.out]; omega)
            rw [← Nat.add_assoc] at hc1 hc2
            have d0 := HB2.out.cell (p := ⟨b, off + k * 3, none⟩) hb
            have d1 := HB2.out.cell (p := ⟨b, off + k * 3 + 1, none⟩) hb
            have d2 := HB2.out.cell (p := ⟨b, off + k * 3 + 2, none⟩) hb
            rw [hc0] at d0
            rw [hc1] at d1
            rw [hc2] at d2
            have HFK : Hid (∀ W, Below w.heap.size w W → Calls Tryz.prog 45 #[.agg #[.float .f32 (s.getD (k * 3) 0), .float .f32 (s.getD (k * 3 + 1) 0), .float .f32 (s.getD (k * 3 + 2) 0), .slice A a.length ca, .slice L l.length cl, .slice D d.length cd, .float .f32 (floatOfInt .f32 c), .float .f32 tip], .agg #[.float .f32 wi, .float .f32 sp, .float .f32 p], .float .f32 dn] W fun e w' => ∃ r t, e = .returned (.agg #[.float .f32 r, .float .f32 t, .bool (fcA a l d s n c hub tip wi sp p dn k)]) ∧ canon .f32 r = fcq1 a l d s n c hub tip wi sp p dn k ∧ canon .f32 t = fcq2 a l d s n c hub tip wi sp p dn k ∧ Below W.heap.size W w') := Lib.hid (fun W hb => i_forceK A L D (some ⟨b, off, none⟩) ca cl cd n cs c hub tip a l d s k wi sp p dn W (HP.out.below hb) HN.out HV.out HC.out HD.out hlt)
            obtain ⟨bk, hbk⟩ : ∃ q, Hid (q = fcA a l d s n c hub tip wi sp p dn k) := ⟨_, Lib.hid rfl⟩
            obtain ⟨q1, hq1⟩ : ∃ q, Hid (q = fcq1 a l d s n c hub tip wi sp p dn k) := ⟨_, Lib.hid rfl⟩
            obtain ⟨q2, hq2⟩ : ∃ q, Hid (q = fcq2 a l d s n c hub tip wi sp p dn k) := ⟨_, Lib.hid rfl⟩
            rw [← hbk.out, ← hq1.out, ← hq2.out] at HFK
            clear hc0 hc1 hc2 hb
            generalize s.getD (k * 3) 0 = x at d0 HFK
            generalize s.getD (k * 3 + 1) 0 = y at d1 HFK
            generalize s.getD (k * 3 + 2) 0 = z at d2 HFK
            obtain ⟨wz, hwz⟩ : ∃ q, q = wr.alloc (.cells #[.float .f32 x, .float .f32 y, .float .f32 z] 68) := ⟨_, rfl⟩
            have bz : Below wr.heap.size wr wz := by rw [hwz]; exact (Below.refl _ _).alloc (Nat.le_refl _) _
            have Bz : Hid (Below w3.heap.size w3 wz) := Lib.hid (below_of HBW.out HBW.out.size bz)
            have BzW : Hid (Below w.heap.size w wz) := Lib.hid (below_of HB2.out HB2.out.size bz)
            have KZ : Hid (BlkL wz w.heap.size [.slice A a.length ca, .slice L l.length cl, .slice D d.length cd, .slice (some ⟨b, off, none⟩) n cs, .int .i64 c, .float .f32 hub, .float .f32 tip]) := Lib.hid (K3.out.below (below_of HBW.out HBW.out.size bz))
            have KCZ : Hid (BlkL wz (w.heap.size + 1) [.float .f32 wi, .float .f32 sp, .float .f32 p]) := Lib.hid (KC3.out.below (below_of HBW.out HBW.out.size bz))
            have KS : Hid (BlkL wz wr.heap.size [.float .f32 x, .float .f32 y, .float .f32 z]) := Lib.hid (by rw [hwz]; exact blkL_at wr #[.float .f32 x, .float .f32 y, .float .f32 z] _ rfl)
            have HGz := Lib.hid (HG.out.below bz)
            clear bz
            go_wp2_with fail
            rw [← hwz]
            clear hwz d0 d1 d2
            refine wp_region_inv6 (fun iq wv v => match iq with
              | 0 => v = u14
              | 1 => v = .agg #[.slice A a.length ca, .slice L l.length cl, .slice D d.length cd, .slice (some ⟨b, off, none⟩) n cs, .int .i64 c, .float .f32 hub, .float .f32 tip]
              | 2 => v = .agg #[.float .f32 x, .float .f32 y, .float .f32 z]
              | 3 => v = .agg #[.float .f32 x, .float .f32 y, .float .f32 z, .slice A a.length ca, .slice L l.length cl, .slice D d.length cd, .float .f32 (floatOfInt .f32 c), .float .f32 tip]
              | 4 => v = .agg #[.float .f32 wi, .float .f32 sp, .float .f32 p]
              | 5 => v = .float .f32 dn
              | 6 => FV6 q1 q2 bk v
              | 7 => FV7 wz q1 q2 bk wv v
              | 8 => FV8 w3 xs q1 q2 bk wv v
              | 9 => FV8 w3 xs q1 q2 bk wv v
              | _ => False) (CF wz 8) (by kernel_rfl) (by kernel_rfl) (CF.start _ _ _) ?hop6 ?hend6
            case hop6 =>
              intro q o hq listed act wq hI hnot hcl hall
              have hC := hI.cls
              rcases q with _ | _ | _ | _ | _ | _ | _ | _ | _ | _ | q
              · simp at hq; subst hq
                have hl8 : listed.getD 8 false = false := hcl.not (j := 8) (i := 0) (e := ⟨0, .data⟩) rfl (by simp) rfl rfl hnot
                have hB := hC hl8
                have hl9 : listed.getD 9 false = false := hcl.not (j := 9) (i := 8) (e := ⟨8, .data⟩) rfl (by simp) rfl rfl hl8
                have g14 : act.tmps[14]?.getD undef = u14 := hI.keptN 14 9 (by kernel_rfl) hl9
                have hC2 := hC.step (k := 0) hI.len (by decide) (by decide) (Below.refl _ _)
                clear hI hall hnot hcl hC hl8 hl9 hB
                refine .inl ⟨wanted_none rfl, ?_⟩
                unfold Oper.wp
                go_simp
                all_goals first | exact ⟨_, rfl, fun _ _ _ h => h, rfl, hC2⟩ | exact ⟨_, rfl, rfl, hC2⟩ | exact ⟨rfl, hC2⟩ | exact hC2 | exact ⟨_, rfl, hC2⟩ | exact ⟨fun _ _ _ h => h, rfl, hC2⟩
              · simp at hq; subst hq
                have hl3 : listed.getD 3 false = false := hcl.not (j := 3) (i := 1) (e := ⟨1, .data⟩) rfl (by simp) rfl rfl hnot
                have hl6 : listed.getD 6 false = false := hcl.not (j := 6) (i := 3) (e := ⟨3, .data⟩) rfl (by simp) rfl rfl hl3
                have hl7 : listed.getD 7 false = false := hcl.not (j := 7) (i := 6) (e := ⟨6, .data⟩) rfl (by simp) rfl rfl hl6
                have hl8 : listed.getD 8 false = false := hcl.not (j := 8) (i := 7) (e := ⟨7, .data⟩) rfl (by simp) rfl rfl hl7
                have hB := hC hl8
                have hl9 : listed.getD 9 false = false := hcl.not (j := 9) (i := 8) (e := ⟨8, .data⟩) rfl (by simp) rfl rfl hl8
                have g5 : act.tmps[5]?.getD undef = .pointer (some ⟨w.heap.size, 0, none⟩) := hI.kept 5 (by kernel_rfl)
                have m0 := ((KZ.out.below hB).2 0 _ rfl).1
                have m1 := ((KZ.out.below hB).2 1 _ rfl).1
                have m2 := ((KZ.out.below hB).2 2 _ rfl).1
                have m3 := ((KZ.out.below hB).2 3 _ rfl).1
                have m4 := ((KZ.out.below hB).2 4 _ rfl).1
                have m5 := ((KZ.out.below hB).2 5 _ rfl).1
                have m6 := ((KZ.out.below hB).2 6 _ rfl).1
                have hC2 := hC.step (k := 1) hI.len (by decide) (by decide) (Below.refl _ _)
                clear hI hall hnot hcl hC hl3 hl6 hl7 hl8 hl9 hB
                refine .inl ⟨wanted_none rfl, ?_⟩
                unfold Oper.wp
                go_simp
                all_goals first | exact ⟨_, rfl, fun _ _ _ h => h, rfl, hC2⟩ | exact ⟨_, rfl, rfl, hC2⟩ | exact ⟨rfl, hC2⟩ | exact hC2 | exact ⟨_, rfl, hC2⟩ | exact ⟨fun _ _ _ h => h, rfl, hC2⟩
              · simp at hq; subst hq
                have hl3 : listed.getD 3 false = false := hcl.not (j := 3) (i := 2) (e := ⟨2, .data⟩) rfl (by simp) rfl rfl hnot
                have hl6 : listed.getD 6 false = false := hcl.not (j := 6) (i := 3) (e := ⟨3, .data⟩) rfl (by simp) rfl rfl hl3
                have hl7 : listed.getD 7 false = false := hcl.not (j := 7) (i := 6) (e := ⟨6, .data⟩) rfl (by simp) rfl rfl hl6
                have hl8 : listed.getD 8 false = false := hcl.not (j := 8) (i := 7) (e := ⟨7, .data⟩) rfl (by simp) rfl rfl hl7
                have hB := hC hl8
                have hl9 : listed.getD 9 false = false := hcl.not (j := 9) (i := 8) (e := ⟨8, .data⟩) rfl (by simp) rfl rfl hl8
                have g16 : act.tmps[16]?.getD undef = .pointer (some ⟨wr.heap.size, 0, none⟩) := hI.kept 16 (by kernel_rfl)
                have m0 := ((KS.out.below hB).2 0 _ rfl).1
                have m1 := ((KS.out.below hB).2 1 _ rfl).1
                have m2 := ((KS.out.below hB).2 2 _ rfl).1
                have hC2 := hC.step (k := 2) hI.len (by decide) (by decide) (Below.refl _ _)
                clear hI hall hnot hcl hC hl3 hl6 hl7 hl8 hl9 hB
                refine .inl ⟨wanted_none rfl, ?_⟩
                unfold Oper.wp
                go_simp
                all_goals first | exact ⟨_, rfl, fun _ _ _ h => h, rfl, hC2⟩ | exact ⟨_, rfl, rfl, hC2⟩ | exact ⟨rfl, hC2⟩ | exact hC2 | exact ⟨_, rfl, hC2⟩ | exact ⟨fun _ _ _ h => h, rfl, hC2⟩
              · simp at hq; subst hq
                have hl6 : listed.getD 6 false = false := hcl.not (j := 6) (i := 3) (e := ⟨3, .data⟩) rfl (by simp) rfl rfl hnot
                have hl7 : listed.getD 7 false = false := hcl.not (j := 7) (i := 6) (e := ⟨6, .data⟩) rfl (by simp) rfl rfl hl6
                have hl8 : listed.getD 8 false = false := hcl.not (j := 8) (i := 7) (e := ⟨7, .data⟩) rfl (by simp) rfl rfl hl7
                have hB := hC hl8
                have hl9 : listed.getD 9 false = false := hcl.not (j := 9) (i := 8) (e := ⟨8, .data⟩) rfl (by simp) rfl rfl hl8
                have g46 : act.tmps[46]?.getD undef = .agg #[.slice A a.length ca, .slice L l.length cl, .slice D d.length cd, .slice (some ⟨b, off, none⟩) n cs, .int .i64 c, .float .f32 hub, .float .f32 tip] := hI.has 1 46 rfl (hall ⟨1, .data⟩ (by simp) rfl)
                have g47 : act.tmps[47]?.getD undef = .agg #[.float .f32 x, .float .f32 y, .float .f32 z] := hI.has 2 47 rfl (hall ⟨2, .data⟩ (by simp) rfl)
                have hC2 := fun w4 (b4 : Below wq.heap.size wq w4) => hC.step (k := 3) hI.len (by decide) (by decide) b4
                clear hI hall hnot hcl hC
                refine .inl ⟨wanted_none rfl, ?_⟩
                unfold Oper.wp
                go_simp
                refine (i_bladeOf A L D (some ⟨b, off, none⟩) ca cl cd n cs c hub tip a l d s x y z _).mono ?_
                rintro e w4 ⟨rfl, b4⟩
                refine ⟨_, rfl, fun j u hj hV => ?_, rfl, hC2 _ b4⟩
                rcases j with _ | _ | _ | _ | _ | _ | _ | _ | _ | _ | j
                · exact hV
                · exact hV
                · exact hV
                · exact hV
                · exact hV
                · exact hV
                · first | exact Bool.noConfusion (hl6.symm.trans hj) | (rw [Array.getD_eq_getD_getElem?] at hl6; exact Bool.noConfusion (hl6.symm.trans hj))
                · first | exact Bool.noConfusion (hl7.symm.trans hj) | (rw [Array.getD_eq_getD_getElem?] at hl7; exact Bool.noConfusion (hl7.symm.trans hj))
                · first | exact Bool.noConfusion (hl8.symm.trans hj) | (rw [Array.getD_eq_getD_getElem?] at hl8; exact Bool.noConfusion (hl8.symm.trans hj))
                · first | exact Bool.noConfusion (hl9.symm.trans hj) | (rw [Array.getD_eq_getD_getElem?] at hl9; exact Bool.noConfusion (hl9.symm.trans hj))
                · exact hV
              · simp at hq; subst hq
                have hl6 : listed.getD 6 false = false := hcl.not (j := 6) (i := 4) (e := ⟨4, .data⟩) rfl (by simp) rfl rfl hnot
                have hl7 : listed.getD 7 false = false := hcl.not (j := 7) (i := 6) (e := ⟨6, .data⟩) rfl (by simp) rfl rfl hl6
                have hl8 : listed.getD 8 false = false := hcl.not (j := 8) (i := 7) (e := ⟨7, .data⟩) rfl (by simp) rfl rfl hl7
                have hB := hC hl8
                have hl9 : listed.getD 9 false = false := hcl.not (j := 9) (i := 8) (e := ⟨8, .data⟩) rfl (by simp) rfl rfl hl8
                have g13 : act.tmps[13]?.getD undef = .pointer (some ⟨w.heap.size + 1, 0, none⟩) := hI.kept 13 (by kernel_rfl)
                have m0 := ((KCZ.out.below hB).2 0 _ rfl).1
                have m1 := ((KCZ.out.below hB).2 1 _ rfl).1
                have m2 := ((KCZ.out.below hB).2 2 _ rfl).1
                have hC2 := hC.step (k := 4) hI.len (by decide) (by decide) (Below.refl _ _)
                clear hI hall hnot hcl hC hl6 hl7 hl8 hl9 hB
                refine .inl ⟨wanted_none rfl, ?_⟩
                unfold Oper.wp
                go_simp
                all_goals first | exact ⟨_, rfl, fun _ _ _ h => h, rfl, hC2⟩ | exact ⟨_, rfl, rfl, hC2⟩ | exact ⟨rfl, hC2⟩ | exact hC2 | exact ⟨_, rfl, hC2⟩ | exact ⟨fun _ _ _ h => h, rfl, hC2⟩
              · simp at hq; subst hq
                have hl6 : listed.getD 6 false = false := hcl.not (j := 6) (i := 5) (e := ⟨5, .data⟩) rfl (by simp) rfl rfl hnot
                have hl7 : listed.getD 7 false = false := hcl.not (j := 7) (i := 6) (e := ⟨6, .data⟩) rfl (by simp) rfl rfl hl6
                have hl8 : listed.getD 8 false = false := hcl.not (j := 8) (i := 7) (e := ⟨7, .data⟩) rfl (by simp) rfl rfl hl7
                have hB := hC hl8
                have hl9 : listed.getD 9 false = false := hcl.not (j := 9) (i := 8) (e := ⟨8, .data⟩) rfl (by simp) rfl rfl hl8
                have g4 : act.tmps[4]?.getD undef = .float .f32 dn := hI.kept 4 (by kernel_rfl)
                have hC2 := hC.step (k := 5) hI.len (by decide) (by decide) (Below.refl _ _)
                clear hI hall hnot hcl hC hl6 hl7 hl8 hl9 hB
                refine .inl ⟨wanted_none rfl, ?_⟩
                unfold Oper.wp
                go_simp
                all_goals first | exact ⟨_, rfl, fun _ _ _ h => h, rfl, hC2⟩ | exact ⟨_, rfl, rfl, hC2⟩ | exact ⟨rfl, hC2⟩ | exact hC2 | exact ⟨_, rfl, hC2⟩ | exact ⟨fun _ _ _ h => h, rfl, hC2⟩
              · simp at hq; subst hq
                have hl7 : listed.getD 7 false = false := hcl.not (j := 7) (i := 6) (e := ⟨6, .data⟩) rfl (by simp) rfl rfl hnot
                have hl8 : listed.getD 8 false = false := hcl.not (j := 8) (i := 7) (e := ⟨7, .data⟩) rfl (by simp) rfl rfl hl7
                have hB := hC hl8
                have hl9 : listed.getD 9 false = false := hcl.not (j := 9) (i := 8) (e := ⟨8, .data⟩) rfl (by simp) rfl rfl hl8
                have g48 : act.tmps[48]?.getD undef = .agg #[.float .f32 x, .float .f32 y, .float .f32 z, .slice A a.length ca, .slice L l.length cl, .slice D d.length cd, .float .f32 (floatOfInt .f32 c), .float .f32 tip] := hI.has 3 48 rfl (hall ⟨3, .data⟩ (by simp) rfl)
                have g49 : act.tmps[49]?.getD undef = .agg #[.float .f32 wi, .float .f32 sp, .float .f32 p] := hI.has 4 49 rfl (hall ⟨4, .data⟩ (by simp) rfl)
                have g50 : act.tmps[50]?.getD undef = .float .f32 dn := hI.has 5 50 rfl (hall ⟨5, .data⟩ (by simp) rfl)
                have hC2 := fun w4 (b4 : Below wq.heap.size wq w4) => hC.step (k := 6) hI.len (by decide) (by decide) b4
                clear hI hall hnot hcl hC
                refine .inl ⟨wanted_none rfl, ?_⟩
                unfold Oper.wp
                go_simp
                refine (HFK.out _ (below_of BzW.out BzW.out.size hB)).mono ?_
                rintro e w4 ⟨r, t, rfl, hr, ht, b4⟩
                refine ⟨_, rfl, fun j u hj hV => ?_, FV6.mk' hr ht, hC2 _ b4⟩
                rcases j with _ | _ | _ | _ | _ | _ | _ | _ | _ | _ | j
                · exact hV
                · exact hV
                · exact hV
                · exact hV
                · exact hV
                · exact hV
                · exact hV
                · first | exact Bool.noConfusion (hl7.symm.trans hj) | (rw [Array.getD_eq_getD_getElem?] at hl7; exact Bool.noConfusion (hl7.symm.trans hj))
                · first | exact Bool.noConfusion (hl8.symm.trans hj) | (rw [Array.getD_eq_getD_getElem?] at hl8; exact Bool.noConfusion (hl8.symm.trans hj))
                · first | exact Bool.noConfusion (hl9.symm.trans hj) | (rw [Array.getD_eq_getD_getElem?] at hl9; exact Bool.noConfusion (hl9.symm.trans hj))
                · exact hV
              · simp at hq; subst hq
                have hl8 : listed.getD 8 false = false := hcl.not (j := 8) (i := 7) (e := ⟨7, .data⟩) rfl (by simp) rfl rfl hnot
                have hB := hC hl8
                have hl9 : listed.getD 9 false = false := hcl.not (j := 9) (i := 8) (e := ⟨8, .data⟩) rfl (by simp) rfl rfl hl8
                obtain ⟨r6, t6, g51, h6a, h6b⟩ := hI.has 6 51 rfl (hall ⟨6, .data⟩ (by simp) rfl)
                have hC2 := hC.step (k := 7) hI.len (by decide) (by decide) ((Below.refl _ _).alloc (Nat.le_refl _) (.cells #[.float .f32 r6, .float .f32 t6, .bool bk] 70))
                clear hI hall hnot hcl hC
                refine .inl ⟨wanted_none rfl, ?_⟩
                unfold Oper.wp
                go_simp
                first | refine ⟨_, rfl, fun j u hj hV => ?_, FV7.mk' h6a h6b hB.size (blkL_at wq #[.float .f32 r6, .float .f32 t6, .bool bk] _ rfl), hC2⟩ | refine ⟨_, rfl, fun j u hj hV => ?_, FV7.mk' h6a h6b hB.size (blkL_at wq #[.float .f32 r6, .float .f32 t6, .bool bk] _ rfl)⟩
                rcases j with _ | _ | _ | _ | _ | _ | _ | _ | _ | _ | j
                · exact hV
                · exact hV
                · exact hV
                · exact hV
                · exact hV
                · exact hV
                · exact hV
                · exact hV.alloc _
                · first | exact Bool.noConfusion (hl8.symm.trans hj) | (rw [Array.getD_eq_getD_getElem?] at hl8; exact Bool.noConfusion (hl8.symm.trans hj))
                · first | exact Bool.noConfusion (hl9.symm.trans hj) | (rw [Array.getD_eq_getD_getElem?] at hl9; exact Bool.noConfusion (hl9.symm.trans hj))
                · exact hV
              · simp at hq; subst hq
                have hB := hC hnot
                have hl9 : listed.getD 9 false = false := hcl.not (j := 9) (i := 8) (e := ⟨8, .data⟩) rfl (by simp) rfl rfl hnot
                have g45 : act.tmps[45]?.getD undef = u14 := hI.has 0 45 rfl (hall ⟨0, .data⟩ (by simp) rfl)
                obtain ⟨B7, r7, t7, g52, h7a, h7b, hlo, hblk⟩ := hI.has 7 52 rfl (hall ⟨7, .data⟩ (by simp) rfl)
                have hC2 := fun w9 => CF.done (W := wz) (ap := 8) (ww := w9) hI.len (by decide)
                have hnot2 : listed.getD 8 false = false := hnot
                clear hI hall hnot hcl hC
                refine .inl ⟨wanted_none rfl, ?_⟩
                have HGq := HGz.out.below hB
                have hown := HGq
                unfold GrF at hown
                have BWq := below_of Bz.out Bz.out.size hB
                refine wp_append_own _ (.tmp 45) (.tmp 52) 66 rfl w3.heap.size 70 i0 (.agg #[.float .f32 0, .float .f32 0, .bool false]) 3 12 Tryz.underlying66 HI.out HZ0.out HZ1.out HZ2.out rfl (by decide) u14 _ _ (by simp [Act.eval, g45]) hown ⟨B7, 0, none⟩ 1 1 [.float .f32 r7, .float .f32 t7, .bool bk] (by simp [Act.eval, g52]) rfl ?c1 ?c2 ?c3 ?c4 BWq.size (fun v' w9 hown' hgrow _ => ?_)
                case c1 =>
                  intro j u hj
                  match j, hj with
                  | 0, hj => simp at hj; subst hj; exact (hblk.2 0 _ rfl).1
                  | 1, hj => simp at hj; subst hj; exact (hblk.2 1 _ rfl).1
                  | 2, hj => simp at hj; subst hj; exact (hblk.2 2 _ rfl).1
                  | j + 3, hj => simp at hj
                case c2 => intro u hu; simp at hu; rcases hu with rfl | rfl | rfl <;> rfl
                case c3 => have := HL.out; unfold maxLen; omega
                case c4 => have := HL.out; omega
                obtain ⟨g2, b2⟩ := GrF.next HGq (Nat.le_refl _) hown' BWq hgrow
                refine ⟨v', rfl, fun j u hj hV => ?_, FV8.mk' h7a h7b g2 b2, hC2 _⟩
                rcases j with _ | _ | _ | _ | _ | _ | _ | _ | _ | _ | j
                · exact hV
                · exact hV
                · exact hV
                · exact hV
                · exact hV
                · exact hV
                · exact hV
                · exact hV.grown hgrow (fun B2 h2 e => by have := (World.ownsRow.lt HGz.out _ e).2; omega)
                · first | exact Bool.noConfusion (hnot2.symm.trans hj) | (rw [Array.getD_eq_getD_getElem?] at hnot2; exact Bool.noConfusion (hnot2.symm.trans hj))
                · first | exact Bool.noConfusion (hl9.symm.trans hj) | (rw [Array.getD_eq_getD_getElem?] at hl9; exact Bool.noConfusion (hl9.symm.trans hj))
                · exact hV
              · simp at hq; subst hq
                have h8 := hI.has 8 53 rfl (hall ⟨8, .data⟩ (by simp) rfl)
                generalize g53 : act.tmps[53]?.getD undef = v36 at h8
                have hC2 := hC.step (k := 9) hI.len (by decide) (by decide) (Below.refl _ _)
                clear hI hall hnot hcl hC
                refine .inl ⟨wanted_none rfl, ?_⟩
                unfold Oper.wp
                go_simp
                all_goals first | exact ⟨_, rfl, fun _ _ _ h => h, h8, hC2⟩ | exact ⟨_, rfl, fun _ _ _ h => h, h8⟩ | exact ⟨_, rfl, h8, hC2⟩ | exact ⟨_, rfl, h8⟩ | exact ⟨h8, hC2⟩ | exact h8 | exact ⟨fun _ _ _ h => h, h8, hC2⟩ | exact ⟨fun _ _ _ h => h, h8⟩
              · simp at hq
            case hend6 =>
              intro listed act w9 hI hall
              obtain ⟨r, t, hr, ht, g2, b2⟩ := hI.has 9 14 rfl (hall 9 (by decide))
              generalize hv9 : act.tmps[14]?.getD undef = v' at g2
              have g0 := hI.kept 0 (by kernel_rfl)
              conv at g0 => rhs; whnf
              have g1 := hI.kept 1 (by kernel_rfl)
              conv at g1 => rhs; whnf
              have g2 := hI.kept 2 (by kernel_rfl)
              conv at g2 => rhs; whnf
              have g3 := hI.kept 3 (by kernel_rfl)
              conv at g3 => rhs; whnf
              have g4 := hI.kept 4 (by kernel_rfl)
              conv at g4 => rhs; whnf
              have g5 := hI.kept 5 (by kernel_rfl)
              conv at g5 => rhs; whnf
              have g6 : act.tmps[6]?.getD undef = undef := hI.kept 6 (by kernel_rfl)
              have g7 : act.tmps[7]?.getD undef = undef := hI.kept 7 (by kernel_rfl)
              have g8 : act.tmps[8]?.getD undef = undef := hI.kept 8 (by kernel_rfl)
              have g9 : act.tmps[9]?.getD undef = undef := hI.kept 9 (by kernel_rfl)
              have g10 := hI.kept 10 (by kernel_rfl)
              conv at g10 => rhs; whnf
              have g11 := hI.kept 11 (by kernel_rfl)
              conv at g11 => rhs; whnf
              have g12 := hI.kept 12 (by kernel_rfl)
              conv at g12 => rhs; whnf
              have g13 := hI.kept 13 (by kernel_rfl)
              conv at g13 => rhs; whnf
              have g15 : act.tmps[15]?.getD undef = undef := hI.kept 15 (by kernel_rfl)
              have g17 := hI.kept 17 (by kernel_rfl)
              conv at g17 => rhs; whnf
              have g18 := hI.kept 18 (by kernel_rfl)
              conv at g18 => rhs; whnf
              have g19 := hI.kept 19 (by kernel_rfl)
              conv at g19 => rhs; whnf
              have g20 := hI.kept 20 (by kernel_rfl)
              conv at g20 => rhs; whnf
              have g21 := hI.kept 21 (by kernel_rfl)
              conv at g21 => rhs; whnf
              have g22 := hI.kept 22 (by kernel_rfl)
              conv at g22 => rhs; whnf
              have g23 := hI.kept 23 (by kernel_rfl)
              conv at g23 => rhs; whnf
              have g24 := hI.kept 24 (by kernel_rfl)
              conv at g24 => rhs; whnf
              have g25 := hI.kept 25 (by kernel_rfl)
              conv at g25 => rhs; whnf
              have g26 := hI.kept 26 (by kernel_rfl)
              conv at g26 => rhs; whnf
              have g27 := hI.kept 27 (by kernel_rfl)
              conv at g27 => rhs; whnf
              have g28 := hI.kept 28 (by kernel_rfl)
              conv at g28 => rhs; whnf
              have g29 := hI.kept 29 (by kernel_rfl)
              conv at g29 => rhs; whnf
              have g30 := hI.kept 30 (by kernel_rfl)
              conv at g30 => rhs; whnf
              have g31 := hI.kept 31 (by kernel_rfl)
              conv at g31 => rhs; whnf
              have g32 := hI.kept 32 (by kernel_rfl)
              conv at g32 => rhs; whnf
              have g33 := hI.kept 33 (by kernel_rfl)
              conv at g33 => rhs; whnf
              have g34 := hI.kept 34 (by kernel_rfl)
              conv at g34 => rhs; whnf
              have g35 := hI.kept 35 (by kernel_rfl)
              conv at g35 => rhs; whnf
              have g36 := hI.kept 36 (by kernel_rfl)
              conv at g36 => rhs; whnf
              have g37 := hI.kept 37 (by kernel_rfl)
              conv at g37 => rhs; whnf
              have g38 := hI.kept 38 (by kernel_rfl)
              conv at g38 => rhs; whnf
              have g39 := hI.kept 39 (by kernel_rfl)
              conv at g39 => rhs; whnf
              have g40 := hI.kept 40 (by kernel_rfl)
              conv at g40 => rhs; whnf
              have g55 : act.tmps[55]?.getD undef = undef := hI.kept 55 (by kernel_rfl)
              have g56 : act.tmps[56]?.getD undef = undef := hI.kept 56 (by kernel_rfl)
              have g57 : act.tmps[57]?.getD undef = undef := hI.kept 57 (by kernel_rfl)
              have g58 : act.tmps[58]?.getD undef = undef := hI.kept 58 (by kernel_rfl)
              have g59 : act.tmps[59]?.getD undef = undef := hI.kept 59 (by kernel_rfl)
              have g41 := hI.kept 41 (by kernel_rfl)
              conv at g41 => rhs; whnf
              have g14 := hv9
              clear hv9
              have hsz : act.tmps.size = 60 := hI.size.trans (by kernel_rfl)
              have hd := hI.defers
              clear hI hall
              obtain ⟨tt, dd⟩ := act
              simp only at g0 g1 g2 g3 g4 g5 g6 g7 g8 g9 g10 g11 g12 g13 g14 g15 g17 g18 g19 g20 g21 g22 g23 g24 g25 g26 g27 g28 g29 g30 g31 g32 g33 g34 g35 g36 g37 g38 g39 g40 g41 g55 g56 g57 g58 g59 hsz hd
              subst hd
              have hl : tt = #[tt[0]?.getD undef, tt[1]?.getD undef, tt[2]?.getD undef, tt[3]?.getD undef, tt[4]?.getD undef, tt[5]?.getD undef, tt[6]?.getD undef, tt[7]?.getD undef, tt[8]?.getD undef, tt[9]?.getD undef, tt[10]?.getD undef, tt[11]?.getD undef, tt[12]?.getD undef, tt[13]?.getD undef, tt[14]?.getD undef, tt[15]?.getD undef, tt[16]?.getD undef, tt[17]?.getD undef, tt[18]?.getD undef, tt[19]?.getD undef, tt[20]?.getD undef, tt[21]?.getD undef, tt[22]?.getD undef, tt[23]?.getD undef, tt[24]?.getD undef, tt[25]?.getD undef, tt[26]?.getD undef, tt[27]?.getD undef, tt[28]?.getD undef, tt[29]?.getD undef, tt[30]?.getD undef, tt[31]?.getD undef, tt[32]?.getD undef, tt[33]?.getD undef, tt[34]?.getD undef, tt[35]?.getD undef, tt[36]?.getD undef, tt[37]?.getD undef, tt[38]?.getD undef, tt[39]?.getD undef, tt[40]?.getD undef, tt[41]?.getD undef, tt[42]?.getD undef, tt[43]?.getD undef, tt[44]?.getD undef, tt[45]?.getD undef, tt[46]?.getD undef, tt[47]?.getD undef, tt[48]?.getD undef, tt[49]?.getD undef, tt[50]?.getD undef, tt[51]?.getD undef, tt[52]?.getD undef, tt[53]?.getD undef, tt[54]?.getD undef, tt[55]?.getD undef, tt[56]?.getD undef, tt[57]?.getD undef, tt[58]?.getD undef, tt[59]?.getD undef] := (arr_lit hsz).trans rfl
              rw [g0, g1, g2, g3, g4, g5, g6, g7, g8, g9, g10, g11, g12, g13, g14, g15, g17, g18, g19, g20, g21, g22, g23, g24, g25, g26, g27, g28, g29, g30, g31, g32, g33, g34, g35, g36, g37, g38, g39, g40, g41, g55, g56, g57, g58, g59] at hl
              clear g0 g1 g2 g3 g4 g5 g6 g7 g8 g9 g10 g11 g12 g13 g14 g15 g17 g18 g19 g20 g21 g22 g23 g24 g25 g26 g27 g28 g29 g30 g31 g32 g33 g34 g35 g36 g37 g38 g39 g40 g41 g55 g56 g57 g58 g59 hsz
              generalize tt[16]?.getD undef = y16 at hl
              generalize tt[42]?.getD undef = y42 at hl
              generalize tt[43]?.getD undef = y43 at hl
              generalize tt[44]?.getD undef = y44 at hl
              generalize tt[45]?.getD undef = y45 at hl
              generalize tt[46]?.getD undef = y46 at hl
              generalize tt[47]?.getD undef = y47 at hl
              generalize tt[48]?.getD undef = y48 at hl
              generalize tt[49]?.getD undef = y49 at hl
              generalize tt[50]?.getD undef = y50 at hl
              generalize tt[51]?.getD undef = y51 at hl
              generalize tt[52]?.getD undef = y52 at hl
              generalize tt[53]?.getD undef = y53 at hl
              generalize tt[54]?.getD undef = y54 at hl
              subst hl
              have HG9 := Lib.hid g2
              have HB9 := Lib.hid b2
              have HT9 := Lib.hid (HM.out.snoc (r := r) (t := t) (b := bk) (by rw [hr, hq1.out]) (by rw [ht, hq2.out]) hbk.out)
              clear g2 b2 hr ht
              go_wp2
              go_roundw
              case rel => exact ⟨k + 1, _, by omega, by go_num, HG9, Lib.hid HT9.out.1, HT9, HB9⟩
              case measure => simp [intOf]; omega
          · have hkk : k = n := by omega
            obtain ⟨A', cap', rfl, hf⟩ := HG.out.fl
            have HF := Lib.hid hf
            have HX : Hid (alls (whB xs) xs.length = alls (fcA a l d s n c hub tip wi sp p dn) n) := Lib.hid (by rw [HM.out.all, hkk])
            have HLn : Hid (xs.length = n) := Lib.hid (by rw [HL.out, hkk])
            have HT : Hid (Tld (fcq1 a l d s n c hub tip wi sp p dn) (fcq2 a l d s n c hub tip wi sp p dn) (fcA a l d s n c hub tip wi sp p dn) xs n) := Lib.hid (by have := HM.out; rw [hkk] at this; exact this)
            have BW : Hid (Below w.heap.size w wr) := Lib.hid (below_of B3.out B3.out.size HBW.out)
            have hx12 : xs.length ≤ 12 := by rw [HLn.out]; exact hn12
            clear hf HG HM HL hkk hk
            go_wp2_with fail
            refine (i_listsOfForces A' cap' xs _ HF.out hx12).mono ?_
            rintro e w5 ⟨R1, R2, c1, c2, g1, g2, ys, zs, rfl, ho, hno, hyes, b5⟩
            have HO : Hid (OwnR2 w5 w.heap.size R1 R2 g1 g2 ys zs) := Lib.hid (ho.baseN BW.out.size)
            have B5 : Hid (Below w.heap.size w w5) := Lib.hid (below_of BW.out BW.out.size b5)
            have HE : Hid (ys = fc1 a l d s n c hub tip wi sp p dn ∧ zs = fc2 a l d s n c hub tip wi sp p dn ∧ alls (whB xs) xs.length = fcO a l d s n c hub tip wi sp p dn) := Lib.hid (by
              cases ha : alls (fcA a l d s n c hub tip wi sp p dn) n
              · have h0 := fcO_a ha (Nat.le_refl _)
                obtain ⟨e1, e2⟩ := hno (by rw [HX.out, ha])
                exact ⟨by rw [e1, (fc_no h0).1], by rw [e2, (fc_no h0).2], by rw [HX.out, ha, h0]⟩
              · have h0 := fcO_yes HV.out HD.out ha
                obtain ⟨e1, e2, e3⟩ := hyes (by rw [HX.out, ha])
                rw [HLn.out] at e1 e2 e3
                exact ⟨fc1_of h0 e1 (fun k hk => ((e3 k hk).1).trans (HT.out.2 k hk).1), fc2_of h0 e2 (fun k hk => ((e3 k hk).2).trans (HT.out.2 k hk).2.1), by rw [HX.out, ha, h0]⟩)
            clear ho hno hyes b5
            go_wp2
            refine bodyPost_ret (results_tmp3 rfl _ _ _) rfl ?_
            obtain ⟨e1, e2, e3⟩ := HE.out
            exact ⟨R1, R2, c1, c2, g1, g2, by rw [e1, e2, e3]; rfl, by rw [← e1, ← e2]; exact HO.out, B5.out⟩
end Go.Proofs.YtahbcpjipomcgaaGreat
namespace Go.Proofs.YtahbcpjipomcgaaGreat
open Go Go.RowKit
/-- two lists of numbers that grow, apart -/
def G2 (w : World) (B0 : Nat) (v1 v2 : Value) (ys zs : List Nat) : Prop := Gr w B0 v1 ys ∧ Gr w B0 v2 zs ∧ ∀ b, v1.ownBlock = some b → v2.ownBlock ≠ some b
theorem G2.swap {w : World} {B0 : Nat} {v1 v2 : Value} {ys zs : List Nat} (h : G2 w B0 v1 v2 ys zs) : G2 w B0 v2 v1 zs ys := ⟨h.2.1, h.1, fun b h1 h2 => h.2.2 b h2 h1⟩
theorem G2.below {w w' : World} {B0 : Nat} {v1 v2 : Value} {ys zs : List Nat} (h : G2 w B0 v1 v2 ys zs) (hb : Below w.heap.size w w') : G2 w' B0 v1 v2 ys zs := ⟨h.1.below hb, h.2.1.below hb, h.2.2⟩
theorem G2.made (w : World) : G2 ((w.alloc (.cells #[] 26)).alloc (.cells #[] 26)) w.heap.size (.slice (some ⟨w.heap.size, 0, none⟩) 0 0) (.slice (some ⟨w.heap.size + 1, 0, none⟩) 0 0) [] [] := by
  have e : (w.alloc (.cells #[] 26)).heap.size = w.heap.size + 1 := by simp
  rw [← e]
  refine ⟨(Gr.made w _ 0 #[] (Nat.le_refl _) (by unfold maxLen; omega) rfl).below ((Below.refl _ _).alloc (Nat.le_refl _) _), Gr.made (w.alloc (.cells #[] 26)) _ 0 #[] (by simp) (by unfold maxLen; omega) rfl, fun b h1 h2 => ?_⟩
  simp only [Value.ownBlock, Option.some.injEq] at h1 h2
  simp at h2
  omega
theorem G2.put1 {w0 wr w1 : World} {B0 x : Nat} {v1 v2 v' : Value} {ys zs : List Nat} {o : Obj} (h : G2 wr B0 v1 v2 ys zs) (hb : Below w0.heap.size w0 wr) (hB : w0.heap.size ≤ B0)
    (ho : w1.ownsRow B0 26 1 v' (ys.length + 1) (ys.map (Value.float .f32) ++ [.float .f32 x])) (hg : (wr.alloc o).grownBy w1 v1.ownBlock) (hat : v'.ownBlock = v1.ownBlock ∨ v'.ownBlock = some (wr.heap.size + 1)) : G2 w1 B0 v' v2 (ys ++ [x]) zs ∧ Below w0.heap.size w0 w1 := by
  obtain ⟨g1, b1⟩ := Gr.next h.1 hb hB ho hg
  refine ⟨⟨g1, World.ownsRow.kept (World.ownsRow.alloc h.2.1 o) hg ?_, fun b e1 e2 => ?_⟩, b1⟩
  · cases e : v2.ownBlock with
    | none => exact .inl rfl
    | some b => exact .inr (fun e' => h.2.2 b e'.symm e)
  · rcases hat with e | e
    · exact h.2.2 b (by rw [← e]; exact e1) e2
    · rw [e1] at e
      have := (World.ownsRow.lt h.2.1 b e2).2
      simp only [Option.some.injEq] at e
      omega
theorem G2.own {w : World} {B0 : Nat} {v1 v2 : Value} {ys zs : List Nat} (h : G2 w B0 v1 v2 ys zs) (hy : ys ≠ []) (hz : zs ≠ []) : ∃ A L c1 c2 b1 b2, v1 = .slice A ys.length c1 ∧ v2 = .slice L zs.length c2 ∧ OwnR2 w B0 A L b1 b2 ys zs := by
  obtain ⟨A, c1, b1, rfl, o1⟩ := h.1.own
  obtain ⟨L, c2, b2, rfl, o2⟩ := h.2.1.own
  refine ⟨A, L, c1, c2, b1, b2, rfl, rfl, o1, o2, ?_⟩
  rcases o1 with e | ⟨rfl, -, -⟩
  · exact absurd e hy
  rcases o2 with e | ⟨rfl, -, -⟩
  · exact absurd e hz
  intro e
  exact h.2.2 b1 rfl (by rw [e]; rfl)
set_option maxHeartbeats 16000000 in
set_option maxRecDepth 100000 in
theorem s_l03All (A L D S : Option Addr) (ca cl cd n cs : Nat) (c : Int) (hub tip : Nat) (a l d s : List Nat) (B wi sp p dn : Nat) (w : World) (h : Rt w A L D S a l d s) (hn : FewR a l d s n) (hk : Blk7 w B A L D S a l d ca cl cd n cs c hub tip) :
    Calls Tryz.prog 38 #[.pointer (some ⟨B, 0, none⟩), .float .f32 wi, .float .f32 sp, .float .f32 p, .float .f32 dn] w fun e w' => ∃ (R1 R2 : Option Addr) (c1 c2 g1 g2 : Nat), e = .returned (.tuple #[.slice R1 (fc1 a l d s n c hub tip wi sp p dn).length c1, .slice R2 (fc2 a l d s n c hub tip wi sp p dn).length c2, .bool (fcO a l d s n c hub tip wi sp p dn)]) ∧ OwnR2 w' w.heap.size R1 R2 g1 g2 (fc1 a l d s n c hub tip wi sp p dn) (fc2 a l d s n c hub tip wi sp p dn) ∧ Below w.heap.size w w' := by
  obtain ⟨i0, hi, hz0, hz1, hz2⟩ := info_parts f32_info
  have HN := Lib.hid hn
  have HSL := Lib.hid hn.1
  have HR := Lib.hid h
  have HK := Lib.hid hk
  have hn1 := hn.1
  have hnk : n ≤ 1048576 := by have := hn.2; omega
  clear h hn hk
  go_enter Tryz.func38, Tryz.ntmps38
  go_wp2_with fail
  refine (s_l03Is A L D S ca cl cd n cs c hub tip a l d s B _ HR.out HN.out HK.out).mono ?_
  rintro e w1 ⟨rfl, b1⟩
  have B1 := Lib.hid b1
  clear b1
  cases hv : validR a l d s n c hub tip
  · skip
    have HNo : Hid (fcO a l d s n c hub tip wi sp p dn = false) := Lib.hid (fcO_v hv)
    go_wp2
    refine bodyPost_ret (results_tmp3 rfl _ _ _) rfl ?_
    exact ⟨none, none, 0, 0, 0, 1, by rw [HNo.out, (fc_no HNo.out).1, (fc_no HNo.out).2]; rfl, by rw [(fc_no HNo.out).1, (fc_no HNo.out).2]; exact ⟨.inl rfl, .inl rfl, by decide⟩, B1.out⟩
  · have HV := Lib.hid hv
    clear hv
    go_wp2_with fail
    refine (s_l02Above _ _).mono ?_
    rintro e w3 ⟨m0, rfl, hw3⟩
    have b3 : Below w1.heap.size w1 w3 := by rw [hw3]; exact below_draws (Below.refl _ _) _
    clear hw3
    have B3 : Hid (Below w.heap.size w w3) := Lib.hid (below_of B1.out B1.out.size b3)
    clear b3
    cases hd : posi dn
    · skip
      have HNo : Hid (fcO a l d s n c hub tip wi sp p dn = false) := Lib.hid (fcO_d hd)
      go_wp2
      refine bodyPost_ret (results_tmp3 rfl _ _ _) rfl ?_
      exact ⟨none, none, 0, 0, 0, 1, by rw [HNo.out, (fc_no HNo.out).1, (fc_no HNo.out).2]; rfl, by rw [(fc_no HNo.out).1, (fc_no HNo.out).2]; exact ⟨.inl rfl, .inl rfl, by decide⟩, B3.out⟩
    · have HD := Lib.hid hd
      clear hd
      have hn2 := (validR_n HV.out).1
      have hn12 := (validR_n HV.out).2
      have HST := Lib.hid (G2.made w3)
      have HB0 : Hid (Below w3.heap.size w3 ((w3.alloc (.cells #[] 26)).alloc (.cells #[] 26))) := Lib.hid (((Below.refl _ _).alloc (Nat.le_refl _) _).alloc (by simp) _)
      go_wp2
      go_loopw [13, 14, 15] (fun v1 v2 i wr => ∃ (k : Nat) (ys zs : List Nat), k ≤ n ∧ i = .int .i64 k ∧ Hid (G2 wr w3.heap.size v1 v2 ys zs) ∧ Hid (ys.length = k ∧ zs.length = k) ∧ Hid (∀ j, j < k → canon .f32 (ys.getD j 0) = fcq1 a l d s n c hub tip wi sp p dn j ∧ canon .f32 (zs.getD j 0) = fcq2 a l d s n c hub tip wi sp p dn j) ∧ Hid (alls (fcA a l d s n c hub tip wi sp p dn) k = true) ∧ Hid (Below w3.heap.size w3 wr)) (fun _ _ i _ => n - (intOf i).toNat)
      case atStart => exact ⟨0, [], [], Nat.zero_le _, rfl, HST, Lib.hid ⟨rfl, rfl⟩, Lib.hid (fun j hj => absurd hj (Nat.not_lt_zero j)), rfl, HB0⟩
      case round =>
        obtain ⟨k, ys, zs, hk, rfl, HG, HL, HQ, HA, HBW⟩ := hrel
        clear HST HB0
        have HBr : Hid (Below w.heap.size w wr) := Lib.hid (below_of B3.out B3.out.size HBW.out)
        obtain ⟨k0, k1, k2, k3, k4, k5, k6⟩ := (HK.out.below HBr.out).limbs
        by_cases hlt : k < n
        · have hRA := rotAt HV.out hlt
          have HRA := Lib.hid hRA
          have hVP : validP a l d = true := by have := HV.out; unfold validR at this; rw [Bool.and_eq_true] at this; exact this.1
          have HVP := Lib.hid hVP
          clear hRA hVP
          go_wp2_with fail
          refine (s_l03Can A L D S ca cl cd n cs c hub tip a l d s k B wi sp p _ (HR.out.below HBr.out) HN.out (HK.out.below HBr.out)).mono ?_
          rintro e w4 ⟨rfl, b4⟩
          have B4 : Hid (Below w3.heap.size w3 w4) := Lib.hid (below_of HBW.out HBW.out.size b4)
          have B4w : Hid (Below w.heap.size w w4) := Lib.hid (below_of HBr.out HBr.out.size b4)
          have HG4 := Lib.hid (HG.out.below b4)
          clear b4 k0 k1 k2 k3 k4 k5 k6 HG
          cases hc : canB a l d s n c hub tip k wi sp p
          · skip
            have HNo : Hid (fcO a l d s n c hub tip wi sp p dn = false) := Lib.hid (fcO_k (k := k) (st_no (st_no0 (flow_can_no hc).1)).1 hlt)
            go_wp2
            refine bodyPost_ret (results_tmp3 rfl _ _ _) rfl ?_
            exact ⟨none, none, 0, 0, 0, 1, by rw [HNo.out, (fc_no HNo.out).1, (fc_no HNo.out).2]; rfl, by rw [(fc_no HNo.out).1, (fc_no HNo.out).2]; exact ⟨.inl rfl, .inl rfl, by decide⟩, B4w.out⟩
          · obtain ⟨hpf, haf, e1, -⟩ := flow_can_yes hc
            have HPF := Lib.hid hpf
            have HAF := Lib.hid haf
            cases hs : (flSt a l d s c tip k wi sp p).isSome
            · have hfa : fcA a l d s n c hub tip wi sp p dn k = false := (st_no (st_no0 (e1.trans hs))).1
              have HFA := Lib.hid hfa
              have HS := Lib.hid hs
              clear hfa hs hc hpf haf e1
              go_wp2_with fail
              refine (s_l03Forces_no A L D S ca cl cd n cs c hub tip a l d s k B wi sp p dn _ (HR.out.below B4w.out) hn1 hlt hnk (HK.out.below B4w.out) HRA.out HVP.out HPF.out HAF.out HS.out).mono ?_
              rintro e w5 ⟨rfl, b5⟩
              have B5 : Hid (Below w.heap.size w w5) := Lib.hid (below_of B4w.out B4w.out.size b5)
              clear b5
              have HNo : Hid (fcO a l d s n c hub tip wi sp p dn = false) := Lib.hid (fcO_k (k := k) HFA.out hlt)
              go_wp2
              refine bodyPost_ret (results_tmp3 rfl _ _ _) rfl ?_
              exact ⟨none, none, 0, 0, 0, 1, by rw [HNo.out, (fc_no HNo.out).1, (fc_no HNo.out).2]; rfl, by rw [(fc_no HNo.out).1, (fc_no HNo.out).2]; exact ⟨.inl rfl, .inl rfl, by decide⟩, B5.out⟩
            · obtain ⟨ha2, e0, f1, f2⟩ := st_yes (dn := dn) hc HD.out hs
              have HA2 := Lib.hid ha2
              have HS := Lib.hid hs
              have HE0 : Hid (fcA a l d s n c hub tip wi sp p dn k = (fin .f32 (fK1 a l d s c tip k wi sp p dn) && fin .f32 (fK2 a l d s c tip k wi sp p dn))) := Lib.hid e0
              have HF1 : Hid (fcq1 a l d s n c hub tip wi sp p dn k = both1 (fK1 a l d s c tip k wi sp p dn) (fK2 a l d s c tip k wi sp p dn)) := Lib.hid f1
              have HF2 : Hid (fcq2 a l d s n c hub tip wi sp p dn k = both2 (fK1 a l d s c tip k wi sp p dn) (fK2 a l d s c tip k wi sp p dn)) := Lib.hid f2
              clear ha2 hs hc hpf haf e1 e0 f1 f2
              go_wp2_with fail
              refine (s_l03Forces A L D S ca cl cd n cs c hub tip a l d s k B wi sp p dn _ (HR.out.below B4w.out) hn1 hlt hnk (HK.out.below B4w.out) HRA.out HVP.out HPF.out HAF.out HS.out HA2.out).mono ?_
              rintro e w5 ⟨ra, rb, rfl, ha, hb, b5⟩
              have B5 : Hid (Below w3.heap.size w3 w5) := Lib.hid (below_of B4.out B4.out.size b5)
              have B5w : Hid (Below w.heap.size w w5) := Lib.hid (below_of B4w.out B4w.out.size b5)
              have HG5 := Lib.hid (HG4.out.below b5)
              rw [← HF1.out] at ha
              rw [← HF2.out] at hb
              have QA := Lib.hid ha
              have QB := Lib.hid hb
              rw [← HE0.out]
              clear ha hb b5 HG4
              cases hf : fcA a l d s n c hub tip wi sp p dn k
              · skip
                have HNo : Hid (fcO a l d s n c hub tip wi sp p dn = false) := Lib.hid (fcO_k (k := k) hf hlt)
                go_wp2
                refine bodyPost_ret (results_tmp3 rfl _ _ _) rfl ?_
                exact ⟨none, none, 0, 0, 0, 1, by rw [HNo.out, (fc_no HNo.out).1, (fc_no HNo.out).2]; rfl, by rw [(fc_no HNo.out).1, (fc_no HNo.out).2]; exact ⟨.inl rfl, .inl rfl, by decide⟩, B5w.out⟩
              · have HA9 : Hid (alls (fcA a l d s n c hub tip wi sp p dn) (k + 1) = true) := Lib.hid (by simp only [alls, HA.out, hf, Bool.and_self])
                clear hf
                go_wp2_with (first
                  | (at_builtin; refine wpList_append_own_at _ rfl _ _ 22 rfl w3.heap.size 26 i0 (.float .f32 0) 1 4 Tryz.underlying22 hi hz0 hz1 hz2 rfl (by decide) _ _ _ rfl (World.ownsRow.alloc (Gr.of_ownsRow HG5.out.1) _) ⟨_, 0, none⟩ 1 1 [.float .f32 ra] rfl rfl ?c1 ?c2 ?c3 ?c4 ?c5 ?_)
                  | fail)
                case c1 =>
                  intro j u hj
                  match j, hj with
                  | 0, hj => simp at hj; subst hj; simp [Addr.add]
                case c2 => intro u hu; simp at hu; subst hu; rfl
                case c3 => have := HL.out; unfold maxLen; omega
                case c4 => have := HL.out; omega
                case c5 => have := B5.out.size; simp; omega
                · intro v1' w7 hown' hgrow _ hat
                  obtain ⟨g7, b7⟩ := G2.put1 (x := ra) HG5.out B5.out (Nat.le_refl _) hown' hgrow hat
                  have HG7 := Lib.hid g7.swap
                  have B7 := Lib.hid b7
                  clear g7 b7 hown' hgrow hat
                  go_wp2_with (first
                    | (at_builtin; refine wpList_append_own_at _ rfl _ _ 22 rfl w3.heap.size 26 i0 (.float .f32 0) 1 4 Tryz.underlying22 hi hz0 hz1 hz2 rfl (by decide) _ _ _ rfl (World.ownsRow.alloc (Gr.of_ownsRow HG7.out.1) _) ⟨_, 0, none⟩ 1 1 [.float .f32 rb] rfl rfl ?c1 ?c2 ?c3 ?c4 ?c5 ?_)
                    | fail)
                  case c1 =>
                    intro j u hj
                    match j, hj with
                    | 0, hj => simp at hj; subst hj; simp [Addr.add]
                  case c2 => intro u hu; simp at hu; subst hu; rfl
                  case c3 => have := HL.out; unfold maxLen; omega
                  case c4 => have := HL.out; omega
                  case c5 => have := B7.out.size; simp; omega
                  · intro v2' w9 hown' hgrow _ hat
                    obtain ⟨g9, b9⟩ := G2.put1 (x := rb) HG7.out B7.out (Nat.le_refl _) hown' hgrow hat
                    have HG9 := Lib.hid g9.swap
                    have B9 := Lib.hid b9
                    have HL9 : Hid ((ys ++ [ra]).length = k + 1 ∧ (zs ++ [rb]).length = k + 1) := Lib.hid (by have := HL.out; simp; omega)
                    have HQ9 : Hid (∀ j, j < k + 1 → canon .f32 ((ys ++ [ra]).getD j 0) = fcq1 a l d s n c hub tip wi sp p dn j ∧ canon .f32 ((zs ++ [rb]).getD j 0) = fcq2 a l d s n c hub tip wi sp p dn j) := Lib.hid (fun j hj => by
                      rw [getD_snoc _ _ _ (by rw [HL.out.1]; exact hj), getD_snoc _ _ _ (by rw [HL.out.2]; exact hj), HL.out.1, HL.out.2]
                      by_cases e : j = k
                      · rw [if_pos e, if_pos e, e]; exact ⟨QA.out, QB.out⟩
                      · rw [if_neg e, if_neg e]; exact HQ.out j (by omega))
                    clear g9 b9 hown' hgrow hat HG7 HG5
                    go_wp2
                    go_roundw
                    case rel => exact ⟨k + 1, ys ++ [ra], zs ++ [rb], by omega, by go_num, HG9, HL9, HQ9, HA9, B9⟩
                    case measure => simp [intOf]; omega
        · have hkn : k = n := by omega
          have HNy : Hid (fcO a l d s n c hub tip wi sp p dn = true) := Lib.hid (fcO_yes HV.out HD.out (by have := HA.out; rw [hkn] at this; exact this))
          have hy0 : ys ≠ [] := by have := HL.out.1; intro e; rw [e] at this; simp at this; omega
          have hz0' : zs ≠ [] := by have := HL.out.2; intro e; rw [e] at this; simp at this; omega
          obtain ⟨A1, A2, c1, c2, b1, b2, rfl, rfl, ho⟩ := HG.out.own hy0 hz0'
          have HO : Hid (OwnR2 wr w.heap.size A1 A2 b1 b2 ys zs) := Lib.hid (ho.baseN B3.out.size)
          have HE : Hid (ys = fc1 a l d s n c hub tip wi sp p dn ∧ zs = fc2 a l d s n c hub tip wi sp p dn) := Lib.hid ⟨fc1_of HNy.out (by rw [HL.out.1, hkn]) (fun j hj => (HQ.out j (by omega)).1), fc2_of HNy.out (by rw [HL.out.2, hkn]) (fun j hj => (HQ.out j (by omega)).2)⟩
          clear ho hy0 hz0' HG
          go_wp2
          refine bodyPost_ret (results_tmp3 rfl _ _ _) rfl ?_
          obtain ⟨e1, e2⟩ := HE.out
          exact ⟨A1, A2, c1, c2, b1, b2, by rw [e1, e2, HNy.out]; rfl, by rw [← e1, ← e2]; exact HO.out, HBr.out⟩
set_option maxHeartbeats 4000000 in
theorem s_ForcesOfRotor (A L D S : Option Addr) (ca cl cd n cs : Nat) (c : Int) (hub tip : Nat) (a l d s : List Nat) (wi sp p dn : Nat) (w : World) (h : Rt w A L D S a l d s) (hn : FewR a l d s n) :
    Calls Tryz.prog 12 #[.agg #[.slice A a.length ca, .slice L l.length cl, .slice D d.length cd, .slice S n cs, .int .i64 c, .float .f32 hub, .float .f32 tip], .float .f32 wi, .float .f32 sp, .float .f32 p, .float .f32 dn] w fun e w' => ∃ (R1 R2 : Option Addr) (c1 c2 g1 g2 : Nat), e = .returned (.tuple #[.slice R1 (fc1 a l d s n c hub tip wi sp p dn).length c1, .slice R2 (fc2 a l d s n c hub tip wi sp p dn).length c2, .bool (fcO a l d s n c hub tip wi sp p dn)]) ∧ OwnR2 w' w.heap.size R1 R2 g1 g2 (fc1 a l d s n c hub tip wi sp p dn) (fc2 a l d s n c hub tip wi sp p dn) ∧ Below w.heap.size w w' := by
  have HB : ∀ o1, Hid (Below w.heap.size w (w.alloc o1)) := fun _ => Lib.hid ((Below.refl _ _).alloc (Nat.le_refl _) _)
  have HR : ∀ o1, Hid (Rt (w.alloc o1) A L D S a l d s) := fun o1 => Lib.hid (h.below (HB o1).out)
  have HK : ∀ t, Hid (Blk7 (w.alloc (.cells #[.slice A a.length ca, .slice L l.length cl, .slice D d.length cd, .slice S n cs, .int .i64 c, .float .f32 hub, .float .f32 tip] t)) w.heap.size A L D S a l d ca cl cd n cs c hub tip) := fun t => Lib.hid (blk7_at w A L D S a l d ca cl cd n cs c hub tip t rfl)
  have HN := Lib.hid hn; clear hn h
  go_enter Tryz.func12, Tryz.ntmps12
  go_wp2_with fail
  refine (s_l03All A L D S ca cl cd n cs c hub tip a l d s w.heap.size wi sp p dn _ (HR _).out HN.out (HK _).out).mono ?_
  rintro e w1 ⟨R1, R2, c1, c2, g1, g2, rfl, ho, b1⟩
  have HO := Lib.hid (ho.baseN (B := w.heap.size) (by simp))
  have B1 := Lib.hid (below_of (HB _).out (HB _).out.size b1)
  clear ho b1
  go_wp2
  refine bodyPost_ret (results_tmp3 rfl _ _ _) rfl ?_
  exact ⟨R1, R2, c1, c2, g1, g2, rfl, HO.out, B1.out⟩
end Go.Proofs.YtahbcpjipomcgaaGreat
namespace Go.Proofs.YtahbcpjipomcgaaGreat
open Go Go.RowKit
def toQ (a l d s : List Nat) (n : Nat) (c : Int) (hub tip wi sp p dn : Nat) (k : Nat) : Nat := fop .mul .f32 (fcq2 a l d s n c hub tip wi sp p dn k) (canon .f32 (s.getD (k * 3) 0))
def beQ (a l d s : List Nat) (n : Nat) (c : Int) (hub tip wi sp p dn : Nat) (k : Nat) : Nat := fop .mul .f32 (fcq1 a l d s n c hub tip wi sp p dn k) (fop .sub .f32 (canon .f32 (s.getD (k * 3) 0)) (canon .f32 hub))
def thV (a l d s : List Nat) (n : Nat) (c : Int) (hub tip wi sp p dn : Nat) : Nat := fop .mul .f32 (canon .f32 (floatOfInt .f32 c)) (abS s (fcq1 a l d s n c hub tip wi sp p dn) (n - 1))
def toV (a l d s : List Nat) (n : Nat) (c : Int) (hub tip wi sp p dn : Nat) : Nat := fop .mul .f32 (canon .f32 (floatOfInt .f32 c)) (abS s (toQ a l d s n c hub tip wi sp p dn) (n - 1))
def beV (a l d s : List Nat) (n : Nat) (c : Int) (hub tip wi sp p dn : Nat) : Nat := abS s (beQ a l d s n c hub tip wi sp p dn) (n - 1)
def thO (a l d s : List Nat) (n : Nat) (c : Int) (hub tip wi sp p dn : Nat) : Bool := fcO a l d s n c hub tip wi sp p dn && fin .f32 (thV a l d s n c hub tip wi sp p dn)
def thR (a l d s : List Nat) (n : Nat) (c : Int) (hub tip wi sp p dn : Nat) : Nat := if fcO a l d s n c hub tip wi sp p dn then onlyN (thV a l d s n c hub tip wi sp p dn) else 0
def toO (a l d s : List Nat) (n : Nat) (c : Int) (hub tip wi sp p dn : Nat) : Bool := fcO a l d s n c hub tip wi sp p dn && fin .f32 (toV a l d s n c hub tip wi sp p dn)
def toR (a l d s : List Nat) (n : Nat) (c : Int) (hub tip wi sp p dn : Nat) : Nat := if fcO a l d s n c hub tip wi sp p dn then onlyN (toV a l d s n c hub tip wi sp p dn) else 0
def beO (a l d s : List Nat) (n : Nat) (c : Int) (hub tip wi sp p dn : Nat) : Bool := fcO a l d s n c hub tip wi sp p dn && fin .f32 (beV a l d s n c hub tip wi sp p dn)
def beR (a l d s : List Nat) (n : Nat) (c : Int) (hub tip wi sp p dn : Nat) : Nat := if fcO a l d s n c hub tip wi sp p dn then onlyN (beV a l d s n c hub tip wi sp p dn) else 0
def poV (a l d s : List Nat) (n : Nat) (c : Int) (hub tip wi sp p dn : Nat) : Nat := fop .mul .f32 (toR a l d s n c hub tip wi sp p dn) (canon .f32 sp)
def poO (a l d s : List Nat) (n : Nat) (c : Int) (hub tip wi sp p dn : Nat) : Bool := toO a l d s n c hub tip wi sp p dn && fin .f32 (poV a l d s n c hub tip wi sp p dn)
def poR (a l d s : List Nat) (n : Nat) (c : Int) (hub tip wi sp p dn : Nat) : Nat := if toO a l d s n c hub tip wi sp p dn then onlyN (poV a l d s n c hub tip wi sp p dn) else 0
section
variable {a l d s : List Nat} {n : Nat} {c : Int} {hub tip wi sp p dn : Nat}
theorem th_no (h : fcO a l d s n c hub tip wi sp p dn = false) : thO a l d s n c hub tip wi sp p dn = false ∧ thR a l d s n c hub tip wi sp p dn = 0 := ⟨by unfold thO; rw [h]; rfl, by unfold thR; rw [h]; rfl⟩
theorem th_yes (h : fcO a l d s n c hub tip wi sp p dn = true) : thO a l d s n c hub tip wi sp p dn = fin .f32 (thV a l d s n c hub tip wi sp p dn) ∧ thR a l d s n c hub tip wi sp p dn = onlyN (thV a l d s n c hub tip wi sp p dn) := ⟨by unfold thO; rw [h, Bool.true_and], by unfold thR; rw [h]; rfl⟩
theorem to_no (h : fcO a l d s n c hub tip wi sp p dn = false) : toO a l d s n c hub tip wi sp p dn = false ∧ toR a l d s n c hub tip wi sp p dn = 0 := ⟨by unfold toO; rw [h]; rfl, by unfold toR; rw [h]; rfl⟩
theorem to_yes (h : fcO a l d s n c hub tip wi sp p dn = true) : toO a l d s n c hub tip wi sp p dn = fin .f32 (toV a l d s n c hub tip wi sp p dn) ∧ toR a l d s n c hub tip wi sp p dn = onlyN (toV a l d s n c hub tip wi sp p dn) := ⟨by unfold toO; rw [h, Bool.true_and], by unfold toR; rw [h]; rfl⟩
theorem be_no (h : fcO a l d s n c hub tip wi sp p dn = false) : beO a l d s n c hub tip wi sp p dn = false ∧ beR a l d s n c hub tip wi sp p dn = 0 := ⟨by unfold beO; rw [h]; rfl, by unfold beR; rw [h]; rfl⟩
theorem be_yes (h : fcO a l d s n c hub tip wi sp p dn = true) : beO a l d s n c hub tip wi sp p dn = fin .f32 (beV a l d s n c hub tip wi sp p dn) ∧ beR a l d s n c hub tip wi sp p dn = onlyN (beV a l d s n c hub tip wi sp p dn) := ⟨by unfold beO; rw [h, Bool.true_and], by unfold beR; rw [h]; rfl⟩
theorem po_no (h : toO a l d s n c hub tip wi sp p dn = false) : poO a l d s n c hub tip wi sp p dn = false ∧ poR a l d s n c hub tip wi sp p dn = 0 := ⟨by unfold poO; rw [h]; rfl, by unfold poR; rw [h]; rfl⟩
theorem po_yes (h : toO a l d s n c hub tip wi sp p dn = true) : poO a l d s n c hub tip wi sp p dn = fin .f32 (poV a l d s n c hub tip wi sp p dn) ∧ poR a l d s n c hub tip wi sp p dn = onlyN (poV a l d s n c hub tip wi sp p dn) := ⟨by unfold poO; rw [h, Bool.true_and], by unfold poR; rw [h]; rfl⟩
theorem fc_at (h : fcO a l d s n c hub tip wi sp p dn = true) {k : Nat} (hk : k < n) : canon .f32 ((fc1 a l d s n c hub tip wi sp p dn).getD k 0) = fcq1 a l d s n c hub tip wi sp p dn k ∧ canon .f32 ((fc2 a l d s n c hub tip wi sp p dn).getD k 0) = fcq2 a l d s n c hub tip wi sp p dn k := by
  have hf := fc_fin (alls_at (fcO_parts h).2.2 k hk)
  rw [(fc_yes h).1, (fc_yes h).2]
  simp only [List.getD, List.getElem?_map, List.getElem?_range hk, Option.map_some, Option.getD_some]
  exact ⟨canon_of_not (isn_of_fin hf.1), canon_of_not (isn_of_fin hf.2)⟩
theorem th_sum (h : fcO a l d s n c hub tip wi sp p dn = true) : abS s (fun k => canon .f32 ((fc1 a l d s n c hub tip wi sp p dn).getD k 0)) (n - 1) = abS s (fcq1 a l d s n c hub tip wi sp p dn) (n - 1) := by
  have h2 := (validR_n (fcO_parts h).1).1
  exact abS_congr (fun j hj => (fc_at h (show j < n by omega)).1)
theorem sum_of {q : Nat → Nat} {ys : List Nat} (h2 : 2 ≤ n) (h : ∀ k, k < n → canon .f32 (ys.getD k 0) = q k) : abS s (fun k => canon .f32 (ys.getD k 0)) (n - 1) = abS s q (n - 1) := abS_congr (fun j hj => h j (by omega))
theorem fc_facts (h : fcO a l d s n c hub tip wi sp p dn = true) : (fc1 a l d s n c hub tip wi sp p dn).length = n ∧ (fc2 a l d s n c hub tip wi sp p dn).length = n ∧ 2 ≤ n ∧ n ≤ 12 := ⟨(fc_len h).1, (fc_len h).2, validR_n (fcO_parts h).1⟩
end
end Go.Proofs.YtahbcpjipomcgaaGreat
namespace Go.Proofs.YtahbcpjipomcgaaGreat
open Go Go.RowKit
set_option maxHeartbeats 8000000 in
set_option maxRecDepth 100000 in
theorem i_ThrustOf (A L D S : Option Addr) (ca cl cd n cs : Nat) (c : Int) (hub tip : Nat) (a l d s : List Nat) (wi sp p dn : Nat) (w : World) (h : Rt w A L D S a l d s) (hn : FewR a l d s n) (hcs : n ≤ cs) :
    Calls Tryz.prog 21 #[.agg #[.slice A a.length ca, .slice L l.length cl, .slice D d.length cd, .slice S n cs, .int .i64 c, .float .f32 hub, .float .f32 tip], .float .f32 wi, .float .f32 sp, .float .f32 p, .float .f32 dn] w fun e w' => ∃ r, e = .returned (.tuple #[.float .f32 r, .bool (thO a l d s n c hub tip wi sp p dn)]) ∧ canon .f32 r = thR a l d s n c hub tip wi sp p dn ∧ Below w.heap.size w w' := by
  have HN := Lib.hid hn
  have HSL := Lib.hid hn.1
  have HP := Lib.hid h
  clear h hn
  obtain ⟨w0, hw0⟩ : ∃ q, q = w.alloc (.cells #[.slice A a.length ca, .slice L l.length cl, .slice D d.length cd, .slice S n cs, .int .i64 c, .float .f32 hub, .float .f32 tip] 35) := ⟨_, rfl⟩
  have B0 : Hid (Below w.heap.size w w0) := Lib.hid (by rw [hw0]; exact (Below.refl _ _).alloc (Nat.le_refl _) _)
  have K0 : Hid (BlkL w0 w.heap.size [.slice A a.length ca, .slice L l.length cl, .slice D d.length cd, .slice S n cs, .int .i64 c, .float .f32 hub, .float .f32 tip]) := Lib.hid (by rw [hw0]; exact blkL_at w #[.slice A a.length ca, .slice L l.length cl, .slice D d.length cd, .slice S n cs, .int .i64 c, .float .f32 hub, .float .f32 tip] _ rfl)
  have k0 := (K0.out.2 0 _ rfl).1
  have k1 := (K0.out.2 1 _ rfl).1
  have k2 := (K0.out.2 2 _ rfl).1
  have k3 := (K0.out.2 3 _ rfl).1
  have k4 := (K0.out.2 4 _ rfl).1
  have k5 := (K0.out.2 5 _ rfl).1
  have k6 := (K0.out.2 6 _ rfl).1
  go_enter Tryz.func21, Tryz.ntmps21
  go_upto_region 1 with fail
  rw [← hw0]
  clear hw0
  go_wp2_with fail
  refine (i_ForcesOfRotor A L D S ca cl cd n cs c hub tip a l d s wi sp p dn _ (HP.out.below B0.out) HN.out).mono ?_
  rintro e w1 ⟨R1, R2, c1, c2, g1, g2, rfl, ho, b1⟩
  clear k0 k1 k2 k3 k4 k5 k6
  have B1 : Hid (Below w.heap.size w w1) := Lib.hid (below_of B0.out B0.out.size b1)
  have K1 : Hid (BlkL w1 w.heap.size [.slice A a.length ca, .slice L l.length cl, .slice D d.length cd, .slice S n cs, .int .i64 c, .float .f32 hub, .float .f32 tip]) := Lib.hid (K0.out.below b1)
  clear b1
  cases hO : fcO a l d s n c hub tip wi sp p dn
  · have HNO := Lib.hid hO
    clear hO ho
    go_wp2
    go_ret2
    exact ⟨_, by rw [(th_no HNO.out).1]; rfl, by rw [(th_no HNO.out).2]; exact canon_zero, B1.out⟩
  · have HO := Lib.hid hO
    obtain ⟨e1, e2, hn2, hn12⟩ := fc_facts hO
    have HL1 := Lib.hid e1
    have HL2 := Lib.hid e2
    have HF1 : Hid (Fl w1 R1 (fc1 a l d s n c hub tip wi sp p dn)) := Lib.hid ho.1.fl
    have HF2 : Hid (Fl w1 R2 (fc2 a l d s n c hub tip wi sp p dn)) := Lib.hid ho.2.1.fl
    have HAT : Hid (∀ k, k < n → canon .f32 ((fc1 a l d s n c hub tip wi sp p dn).getD k 0) = fcq1 a l d s n c hub tip wi sp p dn k ∧ canon .f32 ((fc2 a l d s n c hub tip wi sp p dn).getD k 0) = fcq2 a l d s n c hub tip wi sp p dn k) := Lib.hid (fun k hk => fc_at hO hk)
    rw [e1, e2]
    clear hO ho e1 e2
    generalize fc1 a l d s n c hub tip wi sp p dn = f1 at HL1 HF1 HAT ⊢
    generalize fc2 a l d s n c hub tip wi sp p dn = f2 at HL2 HF2 HAT ⊢
    have HQS : Hid (abS s (fun k => canon .f32 (f1.getD k 0)) (n - 1) = abS s (fcq1 a l d s n c hub tip wi sp p dn) (n - 1)) := Lib.hid (sum_of hn2 (fun k hk => (HAT.out k hk).1))
    go_wp2_with fail
    refine wp_region_inv4 (fun iq wv v => match iq with
      | 0 => v = .pointer (some ⟨w.heap.size, 4, none⟩)
      | 1 => v = .int .i64 c
      | 2 => v = .float .f32 (floatOfInt .f32 c)
      | 3 => v = .pointer (some ⟨w.heap.size, 3, none⟩)
      | 4 => v = .slice S n cs
      | 5 => v = .slice R1 n c1
      | 6 => ∃ r, v = .float .f32 r ∧ canon .f32 r = abS s (fcq1 a l d s n c hub tip wi sp p dn) (n - 1)
      | 7 => ∃ r, v = .float .f32 r ∧ canon .f32 r = fop .mul .f32 (canon .f32 ((floatOfInt .f32 c))) (abS s (fcq1 a l d s n c hub tip wi sp p dn) (n - 1))
      | 8 => ∃ r, v = .tuple #[.float .f32 r, .bool (fin .f32 (thV a l d s n c hub tip wi sp p dn))] ∧ canon .f32 r = onlyN (thV a l d s n c hub tip wi sp p dn)
      | 9 => ∃ r, v = .float .f32 r ∧ canon .f32 r = onlyN (thV a l d s n c hub tip wi sp p dn)
      | 10 => v = .bool (fin .f32 (thV a l d s n c hub tip wi sp p dn))
      | 11 => ∃ r, v = .float .f32 r ∧ canon .f32 r = onlyN (thV a l d s n c hub tip wi sp p dn)
      | 12 => v = .bool (fin .f32 (thV a l d s n c hub tip wi sp p dn))
      | _ => False) (fun _ ww => Below w1.heap.size w1 ww) (fun w w' => Below w.heap.size w w') ?hmono (by kernel_rfl) (by kernel_rfl) ((Below.refl _ _).drew) ?hop ?hend
    case hmono =>
      intro i wa wb v hR hV
      rcases i with _ | _ | _ | _ | _ | _ | _ | _ | _ | _ | _ | _ | _ | i
      · exact hV
      · exact hV
      · exact hV
      · exact hV
      · exact hV
      · exact hV
      · exact hV
      · exact hV
      · exact hV
      · exact hV
      · exact hV
      · exact hV
      · exact hV
      · exact hV
    case hop =>
      intro q o hq listed act w3 hI hnot hcl hall
      have hB := hI.cls
      have m0 := ((K1.out.below hB).2 0 _ rfl).1
      have m1 := ((K1.out.below hB).2 1 _ rfl).1
      have m2 := ((K1.out.below hB).2 2 _ rfl).1
      have m3 := ((K1.out.below hB).2 3 _ rfl).1
      have m4 := ((K1.out.below hB).2 4 _ rfl).1
      have m5 := ((K1.out.below hB).2 5 _ rfl).1
      have m6 := ((K1.out.below hB).2 6 _ rfl).1
      rcases q with _ | _ | _ | _ | _ | _ | _ | _ | _ | _ | _ | _ | _ | q
      · simp at hq; subst hq
        have g5 : act.tmps[5]?.getD undef = .pointer (some ⟨w.heap.size, 0, none⟩) := hI.kept 5 (by kernel_rfl)
        clear hI hall hnot hcl
        refine .inl ⟨wanted_none rfl, ?_⟩
        unfold Oper.wp
        go_simp
        all_goals first | exact ⟨_, rfl, Below.refl _ _, rfl, hB⟩ | exact ⟨Below.refl _ _, hB⟩ | exact Below.refl _ _
      · simp at hq; subst hq
        have g27 : act.tmps[27]?.getD undef = .pointer (some ⟨w.heap.size, 4, none⟩) := hI.has 0 27 rfl (hall ⟨0, .data⟩ (by simp) rfl)
        clear hI hall hnot hcl
        refine .inl ⟨wanted_none rfl, ?_⟩
        unfold Oper.wp
        go_simp
        all_goals first | exact ⟨_, rfl, Below.refl _ _, rfl, hB⟩ | exact ⟨Below.refl _ _, hB⟩ | exact Below.refl _ _
      · simp at hq; subst hq
        have g28 : act.tmps[28]?.getD undef = .int .i64 c := hI.has 1 28 rfl (hall ⟨1, .data⟩ (by simp) rfl)
        clear hI hall hnot hcl
        refine .inl ⟨wanted_none rfl, ?_⟩
        unfold Oper.wp
        go_simp
        all_goals first | exact ⟨_, rfl, Below.refl _ _, rfl, hB⟩ | exact ⟨Below.refl _ _, hB⟩ | exact Below.refl _ _
      · simp at hq; subst hq
        have g5 : act.tmps[5]?.getD undef = .pointer (some ⟨w.heap.size, 0, none⟩) := hI.kept 5 (by kernel_rfl)
        clear hI hall hnot hcl
        refine .inl ⟨wanted_none rfl, ?_⟩
        unfold Oper.wp
        go_simp
        all_goals first | exact ⟨_, rfl, Below.refl _ _, rfl, hB⟩ | exact ⟨Below.refl _ _, hB⟩ | exact Below.refl _ _
      · simp at hq; subst hq
        have g30 : act.tmps[30]?.getD undef = .pointer (some ⟨w.heap.size, 3, none⟩) := hI.has 3 30 rfl (hall ⟨3, .data⟩ (by simp) rfl)
        clear hI hall hnot hcl
        refine .inl ⟨wanted_none rfl, ?_⟩
        unfold Oper.wp
        go_simp
        all_goals first | exact ⟨_, rfl, Below.refl _ _, rfl, hB⟩ | exact ⟨Below.refl _ _, hB⟩ | exact Below.refl _ _
      · simp at hq; subst hq
        have g12 : act.tmps[12]?.getD undef = .slice R1 n c1 := hI.kept 12 (by kernel_rfl)
        clear hI hall hnot hcl
        refine .inl ⟨wanted_none rfl, ?_⟩
        unfold Oper.wp
        go_simp
        all_goals first | exact ⟨_, rfl, Below.refl _ _, rfl, hB⟩ | exact ⟨Below.refl _ _, hB⟩ | exact Below.refl _ _
      · simp at hq; subst hq
        have g31 : act.tmps[31]?.getD undef = .slice S n cs := hI.has 4 31 rfl (hall ⟨4, .data⟩ (by simp) rfl)
        have g32 : act.tmps[32]?.getD undef = .slice R1 n c1 := hI.has 5 32 rfl (hall ⟨5, .data⟩ (by simp) rfl)
        clear hI hall hnot hcl
        refine .inl ⟨wanted_none rfl, ?_⟩
        unfold Oper.wp
        go_simp
        refine (i_alongBlade S R1 n cs c1 s f1 _ (HP.out.2.below (below_of B1.out B1.out.size hB)) HSL.out (HF1.out.below hB) HL1.out hn2 hn12 hcs).mono ?_
        rintro e w4 ⟨r, rfl, hr, b4⟩
        exact ⟨_, rfl, b4, ⟨r, rfl, hr.trans HQS.out⟩, below_of hB hB.size b4⟩
      · simp at hq; subst hq
        have g29 : act.tmps[29]?.getD undef = .float .f32 (floatOfInt .f32 c) := hI.has 2 29 rfl (hall ⟨2, .data⟩ (by simp) rfl)
        obtain ⟨r6, g33, h6a⟩ := hI.has 6 33 rfl (hall ⟨6, .data⟩ (by simp) rfl)
        clear hI hall hnot hcl
        refine .inl ⟨wanted_none rfl, ?_⟩
        unfold Oper.wp
        go_simp
        first | exact ⟨_, rfl, below_draws (Below.refl _ _) _, ⟨_, rfl, canonF rfl h6a⟩, below_draws hB _⟩ | exact ⟨_, rfl, below_draws (Below.refl _ _) _, ⟨_, rfl, canonF rfl h6a⟩⟩
      · simp at hq; subst hq
        obtain ⟨r7, g34, h7a⟩ := hI.has 7 34 rfl (hall ⟨7, .data⟩ (by simp) rfl)
        clear hI hall hnot hcl
        refine .inl ⟨wanted_none rfl, ?_⟩
        unfold Oper.wp
        go_simp
        refine (i_onlyFiniteC _ (thV a l d s n c hub tip wi sp p dn) _ (by unfold thV; exact h7a)).mono ?_
        rintro e w4 ⟨ro, no, rfl, hro, rfl⟩
        exact ⟨_, rfl, below_draws (Below.refl _ _) _, ⟨ro, rfl, hro⟩, below_draws hB _⟩
      · simp at hq; subst hq
        obtain ⟨r8, g35, h8a⟩ := hI.has 8 35 rfl (hall ⟨8, .data⟩ (by simp) rfl)
        clear hI hall hnot hcl
        refine .inl ⟨wanted_none rfl, ?_⟩
        unfold Oper.wp
        go_simp
        first | exact ⟨_, rfl, Below.refl _ _, ⟨_, rfl, h8a⟩, hB⟩ | exact ⟨_, rfl, Below.refl _ _, ⟨_, rfl, h8a⟩⟩
      · simp at hq; subst hq
        obtain ⟨r8, g35, h8a⟩ := hI.has 8 35 rfl (hall ⟨8, .data⟩ (by simp) rfl)
        clear hI hall hnot hcl
        refine .inl ⟨wanted_none rfl, ?_⟩
        unfold Oper.wp
        go_simp
        all_goals first | exact ⟨_, rfl, Below.refl _ _, rfl, hB⟩ | exact ⟨Below.refl _ _, hB⟩ | exact Below.refl _ _
      · simp at hq; subst hq
        obtain ⟨r9, g36, h9a⟩ := hI.has 9 36 rfl (hall ⟨9, .data⟩ (by simp) rfl)
        clear hI hall hnot hcl
        refine .inl ⟨wanted_none rfl, ?_⟩
        unfold Oper.wp
        go_simp
        first | exact ⟨_, rfl, Below.refl _ _, ⟨_, rfl, h9a⟩⟩ | exact ⟨_, rfl, Below.refl _ _, ⟨_, rfl, h9a⟩, hB⟩
      · simp at hq; subst hq
        have g37 : act.tmps[37]?.getD undef = .bool (fin .f32 (thV a l d s n c hub tip wi sp p dn)) := hI.has 10 37 rfl (hall ⟨10, .data⟩ (by simp) rfl)
        clear hI hall hnot hcl
        refine .inl ⟨wanted_none rfl, ?_⟩
        unfold Oper.wp
        go_simp
        all_goals first | exact ⟨_, rfl, Below.refl _ _, rfl, hB⟩ | exact ⟨Below.refl _ _, hB⟩ | exact Below.refl _ _
      · simp at hq
    case hend =>
      intro listed act w3 hI hall
      have hB := hI.cls
      have m0 := ((K1.out.below hB).2 0 _ rfl).1
      have m1 := ((K1.out.below hB).2 1 _ rfl).1
      have m2 := ((K1.out.below hB).2 2 _ rfl).1
      have m3 := ((K1.out.below hB).2 3 _ rfl).1
      have m4 := ((K1.out.below hB).2 4 _ rfl).1
      have m5 := ((K1.out.below hB).2 5 _ rfl).1
      have m6 := ((K1.out.below hB).2 6 _ rfl).1
      obtain ⟨rq, g10, hrq⟩ := hI.has 11 10 rfl (hall 11 (by decide))
      have g11 : act.tmps[11]?.getD undef = .bool (fin .f32 (thV a l d s n c hub tip wi sp p dn)) := hI.has 12 11 rfl (hall 12 (by decide))
      have hd := hI.defers
      have HBE := Lib.hid hB
      have HRQ := Lib.hid hrq
      clear hI hall hB hrq
      go_wp2
      refine bodyPost_ret (v := .tuple #[.float .f32 rq, .bool (fin .f32 (thV a l d s n c hub tip wi sp p dn))]) (by simp [results, Tryz.results21, g10, g11, go_sem]) (by first | rfl | exact hd) ⟨rq, (by rw [(th_yes HO.out).1]), (HRQ.out.trans (by rw [(th_yes HO.out).2])), below_of B1.out B1.out.size HBE.out⟩
set_option maxHeartbeats 8000000 in
set_option maxRecDepth 100000 in
theorem i_toAt (A L D S : Option Addr) (ca cl cd n cs : Nat) (c : Int) (hub tip : Nat) (a l d s : List Nat) (By Br k cy : Nat) (Y : Option Addr) (ys : List Nat) (w : World) (hS : Fl w S s) (hs : s.length = n * 3) (hY : Fl w Y ys) (hy : ys.length = n) (ky : w.cell? ⟨By, 0, none⟩ = some (.slice Y n cy)) (kr : BlkL w Br [.slice A a.length ca, .slice L l.length cl, .slice D d.length cd, .slice S n cs, .int .i64 c, .float .f32 hub, .float .f32 tip]) (hk : k < n) (_hn12 : n ≤ 12) :
    Calls Tryz.prog 57 #[.int .i64 k, .pointer (some ⟨By, 0, none⟩), .pointer (some ⟨Br, 0, none⟩)] w fun e w' => ∃ r, e = .returned (.float .f32 r) ∧ canon .f32 r = fop .mul .f32 (canon .f32 (ys.getD k 0)) (canon .f32 (s.getD (k * 3) 0)) ∧ Below w.heap.size w w' := by
  obtain ⟨ba, oa, rfl, -, hc⟩ := hY.at_ (k := k) (by omega)
  obtain ⟨b, off, rfl, -, hc'⟩ := hS.at_ (k := k * 3) (by omega)
  generalize ys.getD k 0 = y at hc ⊢
  generalize s.getD (k * 3) 0 = x at hc' ⊢
  have kr3 := (kr.2 3 _ rfl).1
  have kr5 := (kr.2 5 _ rfl).1
  clear hS hY kr
  have hdd : ∀ nn j, ∃ mm, (w.drewN nn).drewN j = w.drewN mm := fun nn j => ⟨nn + j, World.drewN_drewN ..⟩
  go_enter Tryz.func57, Tryz.ntmps57
  go_wp2_with fail
  refine wp_region_inv3 (fun iq v => match iq with
    | 0 => v = .slice (some ⟨ba, oa, none⟩) n cy
    | 1 => v = .int .i64 k
    | 2 => v = .pointer (some ⟨ba, oa + k, none⟩)
    | 3 => v = .float .f32 y
    | 4 => v = .pointer (some ⟨Br, 3, none⟩)
    | 5 => v = .slice (some ⟨b, off, none⟩) n cs
    | 6 => v = .int .i64 k
    | 7 => v = .pointer (some ⟨b, off + k * 3, none⟩)
    | 8 => v = .pointer (some ⟨b, off + k * 3, none⟩)
    | 9 => v = .float .f32 x
    | 10 => ∃ r, v = .float .f32 r ∧ canon .f32 r = fop .mul .f32 (canon .f32 y) (canon .f32 x)
    | 11 => ∃ r, v = .float .f32 r ∧ canon .f32 r = fop .mul .f32 (canon .f32 y) (canon .f32 x)
    | _ => False) (fun _ ww => ∃ nn, ww = w.drewN nn) (by kernel_rfl) (by kernel_rfl) ⟨1, rfl⟩ ?hop ?hend
  case hop =>
    intro q o hq listed act w3 hI hnot hcl hall
    obtain ⟨nn, rfl⟩ := hI.cls
    rcases q with _ | _ | _ | _ | _ | _ | _ | _ | _ | _ | _ | _ | q
    · simp at hq; subst hq
      have g1 : act.tmps[1]?.getD undef = .pointer (some ⟨By, 0, none⟩) := hI.kept 1 (by kernel_rfl)
      clear hI hall hnot hcl
      refine .inl ⟨wanted_none rfl, ?_⟩
      unfold Oper.wp
      go_simp
      all_goals exact ⟨_, rfl, rfl, ⟨_, rfl⟩⟩
    · simp at hq; subst hq
      have g0 : act.tmps[0]?.getD undef = .int .i64 k := hI.kept 0 (by kernel_rfl)
      clear hI hall hnot hcl
      refine .inl ⟨wanted_none rfl, ?_⟩
      unfold Oper.wp
      go_simp
      all_goals exact ⟨_, rfl, rfl, ⟨_, rfl⟩⟩
    · simp at hq; subst hq
      have g5 : act.tmps[5]?.getD undef = .slice (some ⟨ba, oa, none⟩) n cy := hI.has 0 5 rfl (hall ⟨0, .data⟩ (by simp) rfl)
      have g6 : act.tmps[6]?.getD undef = .int .i64 k := hI.has 1 6 rfl (hall ⟨1, .data⟩ (by simp) rfl)
      clear hI hall hnot hcl
      refine .inl ⟨wanted_none rfl, ?_⟩
      unfold Oper.wp
      go_simp
      all_goals exact ⟨_, rfl, rfl, ⟨_, rfl⟩⟩
    · simp at hq; subst hq
      have g7 : act.tmps[7]?.getD undef = .pointer (some ⟨ba, oa + k, none⟩) := hI.has 2 7 rfl (hall ⟨2, .data⟩ (by simp) rfl)
      clear hI hall hnot hcl
      refine .inl ⟨wanted_none rfl, ?_⟩
      unfold Oper.wp
      go_simp
      all_goals exact ⟨_, rfl, rfl, ⟨_, rfl⟩⟩
    · simp at hq; subst hq
      have g2 : act.tmps[2]?.getD undef = .pointer (some ⟨Br, 0, none⟩) := hI.kept 2 (by kernel_rfl)
      clear hI hall hnot hcl
      refine .inl ⟨wanted_none rfl, ?_⟩
      unfold Oper.wp
      go_simp
      all_goals exact ⟨_, rfl, rfl, ⟨_, rfl⟩⟩
    · simp at hq; subst hq
      have g9 : act.tmps[9]?.getD undef = .pointer (some ⟨Br, 3, none⟩) := hI.has 4 9 rfl (hall ⟨4, .data⟩ (by simp) rfl)
      clear hI hall hnot hcl
      refine .inl ⟨wanted_none rfl, ?_⟩
      unfold Oper.wp
      go_simp
      all_goals exact ⟨_, rfl, rfl, ⟨_, rfl⟩⟩
    · simp at hq; subst hq
      have g0 : act.tmps[0]?.getD undef = .int .i64 k := hI.kept 0 (by kernel_rfl)
      clear hI hall hnot hcl
      refine .inl ⟨wanted_none rfl, ?_⟩
      unfold Oper.wp
      go_simp
      all_goals exact ⟨_, rfl, rfl, ⟨_, rfl⟩⟩
    · simp at hq; subst hq
      have g10 : act.tmps[10]?.getD undef = .slice (some ⟨b, off, none⟩) n cs := hI.has 5 10 rfl (hall ⟨5, .data⟩ (by simp) rfl)
      have g11 : act.tmps[11]?.getD undef = .int .i64 k := hI.has 6 11 rfl (hall ⟨6, .data⟩ (by simp) rfl)
      clear hI hall hnot hcl
      refine .inl ⟨wanted_none rfl, ?_⟩
      unfold Oper.wp
      go_simp
      all_goals exact ⟨_, rfl, rfl, ⟨_, rfl⟩⟩
    · simp at hq; subst hq
      have g12 : act.tmps[12]?.getD undef = .pointer (some ⟨b, off + k * 3, none⟩) := hI.has 7 12 rfl (hall ⟨7, .data⟩ (by simp) rfl)
      clear hI hall hnot hcl
      refine .inl ⟨wanted_none rfl, ?_⟩
      unfold Oper.wp
      go_simp
      all_goals exact ⟨_, rfl, rfl, ⟨_, rfl⟩⟩
    · simp at hq; subst hq
      have g13 : act.tmps[13]?.getD undef = .pointer (some ⟨b, off + k * 3, none⟩) := hI.has 8 13 rfl (hall ⟨8, .data⟩ (by simp) rfl)
      clear hI hall hnot hcl
      refine .inl ⟨wanted_none rfl, ?_⟩
      unfold Oper.wp
      go_simp
      all_goals exact ⟨_, rfl, rfl, ⟨_, rfl⟩⟩
    · simp at hq; subst hq
      have g8 : act.tmps[8]?.getD undef = .float .f32 y := hI.has 3 8 rfl (hall ⟨3, .data⟩ (by simp) rfl)
      have g14 : act.tmps[14]?.getD undef = .float .f32 x := hI.has 9 14 rfl (hall ⟨9, .data⟩ (by simp) rfl)
      clear hI hall hnot hcl
      refine .inl ⟨wanted_none rfl, ?_⟩
      unfold Oper.wp
      go_simp
      exact ⟨_, rfl, ⟨_, rfl, canonF rfl rfl⟩, by first | exact ⟨_, rfl⟩ | exact hdd _ _⟩
    · simp at hq; subst hq
      obtain ⟨r10, g15, h10a⟩ := hI.has 10 15 rfl (hall ⟨10, .data⟩ (by simp) rfl)
      clear hI hall hnot hcl
      refine .inl ⟨wanted_none rfl, ?_⟩
      unfold Oper.wp
      go_simp
      exact ⟨_, rfl, ⟨_, rfl, h10a⟩, ⟨_, rfl⟩⟩
    · simp at hq
  case hend =>
    intro listed act w3 hI hall
    obtain ⟨nn, rfl⟩ := hI.cls
    obtain ⟨rq, g4, hrq⟩ := hI.has 11 4 rfl (hall 11 (by decide))
    have hd := hI.defers
    clear hI hall
    go_wp2
    refine bodyPost_ret (v := .float .f32 rq) (by simp [results, Tryz.results57, g4, go_sem]) (by first | rfl | exact hd) ⟨rq, rfl, hrq, below_draws (Below.refl _ _) nn⟩
set_option maxHeartbeats 4000000 in
set_option maxRecDepth 100000 in
theorem i_listOf_to (c0 c1 : Value) (q : Nat → Nat) (n : Nat) (w : World) (hn : n ≤ 1048576)
    (hat : ∀ k, k < n → ∀ wr, Below w.heap.size w wr → Calls Tryz.prog 57 #[.int .i64 k, c0, c1] wr fun e w' => ∃ r, e = .returned (.float .f32 r) ∧ canon .f32 r = q k ∧ Below wr.heap.size wr w') :
    Calls Tryz.prog 56 #[.int .i64 n, .func (.func 57) #[] #[c0, c1]] w fun e w' => ∃ (A : Option Addr) (xs : List Nat), e = .returned (.slice A n n) ∧ xs.length = n ∧ Fl w' A xs ∧ (∀ k, k < n → canon .f32 (xs.getD k 0) = q k) ∧ Below w.heap.size w w' ∧ A = some ⟨w.heap.size, 0, none⟩ ∧ Own w' w.heap.size xs := by
  have hmk := make_f32 n w hn
  have HA := Lib.hid hat; clear hat
  go_enter Tryz.func56, Tryz.ntmps56
  go_wp2
  go_loopw [11] (fun i wr => ∃ (k : Nat) (ys : List Nat), k ≤ n ∧ i = .int .i64 k ∧ FlNew w wr w.heap.size n k ys ∧ ys.length = n ∧ Hid (∀ j, j < k → canon .f32 (ys.getD j 0) = q j)) (fun i _ => n - (intOf i).toNat)
  case atStart => exact ⟨0, List.replicate n 0, Nat.zero_le _, rfl, FlNew.start .., by simp, Lib.hid (fun j hj => absurd hj (Nat.not_lt_zero j))⟩
  case round =>
    obtain ⟨k, ys, hk, rfl, hnew, hlen, hq⟩ := hrel
    clear hmk
    by_cases hlt : k < n
    · have hcall := HA.out k hlt _ hnew.1
      have HN := Lib.hid hnew; clear hnew
      have hwr : IntKind.i64.wrap ((k : Int) + 1) = (k : Int) + 1 := IntWalk.i64_in _ (by omega)
      go_wp2_with fail
      refine hcall.mono ?_
      rintro e w1 ⟨r, rfl, hr, b1⟩
      have hn1 := HN.out.below b1
      obtain ⟨hc2, hc3⟩ := hn1.2.2.2 k hlt
      rw [if_neg (by omega)] at hc2
      have hst := (hn1.congr (ys := ys.set k r) (fun j hj => by rw [getD_lset (by omega), if_neg (by omega)])).step hlt
      rw [getD_lset (by omega), if_pos rfl] at hst
      have HS := Lib.hid hst
      have HQ : Hid (∀ j, j < k + 1 → canon .f32 ((ys.set k r).getD j 0) = q j) := Lib.hid (fun j hj => by
        rw [getD_lset (by omega)]
        by_cases e : k = j
        · rw [if_pos e, hr, e]
        · rw [if_neg e]; exact hq.out j (by omega))
      clear hst hn1 hr b1 hcall
      go_wp2
      go_roundw
      case rel => exact ⟨k + 1, ys.set k r, by omega, by go_num, HS.out, by simp [hlen], HQ⟩
      case measure => simp [intOf]; omega
    · have HN := Lib.hid hnew; clear hnew
      have hkk : k = n := by omega
      subst hkk
      go_wp2
      go_ret
      exact ⟨_, ys, rfl, hlen, by subst hlen; exact HN.out.done (Nat.le_refl _), hq.out, HN.out.1, rfl, by subst hlen; exact Own.of_new HN.out (Nat.le_refl _)⟩
set_option maxHeartbeats 8000000 in
set_option maxRecDepth 100000 in
theorem i_TorqueOf (A L D S : Option Addr) (ca cl cd n cs : Nat) (c : Int) (hub tip : Nat) (a l d s : List Nat) (wi sp p dn : Nat) (w : World) (h : Rt w A L D S a l d s) (hn : FewR a l d s n) (hcs : n ≤ cs) :
    Calls Tryz.prog 24 #[.agg #[.slice A a.length ca, .slice L l.length cl, .slice D d.length cd, .slice S n cs, .int .i64 c, .float .f32 hub, .float .f32 tip], .float .f32 wi, .float .f32 sp, .float .f32 p, .float .f32 dn] w fun e w' => ∃ r, e = .returned (.tuple #[.float .f32 r, .bool (toO a l d s n c hub tip wi sp p dn)]) ∧ canon .f32 r = toR a l d s n c hub tip wi sp p dn ∧ Below w.heap.size w w' := by
  have HN := Lib.hid hn
  have HSL := Lib.hid hn.1
  have HP := Lib.hid h
  clear h hn
  obtain ⟨w0, hw0⟩ : ∃ q, q = w.alloc (.cells #[.slice A a.length ca, .slice L l.length cl, .slice D d.length cd, .slice S n cs, .int .i64 c, .float .f32 hub, .float .f32 tip] 35) := ⟨_, rfl⟩
  have B0 : Hid (Below w.heap.size w w0) := Lib.hid (by rw [hw0]; exact (Below.refl _ _).alloc (Nat.le_refl _) _)
  have K0 : Hid (BlkL w0 w.heap.size [.slice A a.length ca, .slice L l.length cl, .slice D d.length cd, .slice S n cs, .int .i64 c, .float .f32 hub, .float .f32 tip]) := Lib.hid (by rw [hw0]; exact blkL_at w #[.slice A a.length ca, .slice L l.length cl, .slice D d.length cd, .slice S n cs, .int .i64 c, .float .f32 hub, .float .f32 tip] _ rfl)
  have k0 := (K0.out.2 0 _ rfl).1
  have k1 := (K0.out.2 1 _ rfl).1
  have k2 := (K0.out.2 2 _ rfl).1
  have k3 := (K0.out.2 3 _ rfl).1
  have k4 := (K0.out.2 4 _ rfl).1
  have k5 := (K0.out.2 5 _ rfl).1
  have k6 := (K0.out.2 6 _ rfl).1
  go_enter Tryz.func24, Tryz.ntmps24
  go_upto_region 1 with fail
  rw [← hw0]
  clear hw0
  go_wp2_with fail
  refine (i_ForcesOfRotor A L D S ca cl cd n cs c hub tip a l d s wi sp p dn _ (HP.out.below B0.out) HN.out).mono ?_
  rintro e w1 ⟨R1, R2, c1, c2, g1, g2, rfl, ho, b1⟩
  clear k0 k1 k2 k3 k4 k5 k6
  have B1 : Hid (Below w.heap.size w w1) := Lib.hid (below_of B0.out B0.out.size b1)
  have K1 : Hid (BlkL w1 w.heap.size [.slice A a.length ca, .slice L l.length cl, .slice D d.length cd, .slice S n cs, .int .i64 c, .float .f32 hub, .float .f32 tip]) := Lib.hid (K0.out.below b1)
  clear b1
  cases hO : fcO a l d s n c hub tip wi sp p dn
  · have HNO := Lib.hid hO
    clear hO ho
    go_wp2
    go_ret2
    exact ⟨_, by rw [(to_no HNO.out).1]; rfl, by rw [(to_no HNO.out).2]; exact canon_zero, (B1.out.alloc B1.out.size _)⟩
  · have HO := Lib.hid hO
    obtain ⟨e1, e2, hn2, hn12⟩ := fc_facts hO
    have HL1 := Lib.hid e1
    have HL2 := Lib.hid e2
    have HF1 : Hid (Fl w1 R1 (fc1 a l d s n c hub tip wi sp p dn)) := Lib.hid ho.1.fl
    have HF2 : Hid (Fl w1 R2 (fc2 a l d s n c hub tip wi sp p dn)) := Lib.hid ho.2.1.fl
    have HAT : Hid (∀ k, k < n → canon .f32 ((fc1 a l d s n c hub tip wi sp p dn).getD k 0) = fcq1 a l d s n c hub tip wi sp p dn k ∧ canon .f32 ((fc2 a l d s n c hub tip wi sp p dn).getD k 0) = fcq2 a l d s n c hub tip wi sp p dn k) := Lib.hid (fun k hk => fc_at hO hk)
    rw [e1, e2]
    clear hO ho e1 e2
    generalize fc1 a l d s n c hub tip wi sp p dn = f1 at HL1 HF1 HAT ⊢
    generalize fc2 a l d s n c hub tip wi sp p dn = f2 at HL2 HF2 HAT ⊢
    obtain ⟨wb, hwb⟩ : ∃ q, q = w1.alloc (.cells #[.slice R2 n c2] 22) := ⟨_, rfl⟩
    have bb : Below w1.heap.size w1 wb := by rw [hwb]; exact (Below.refl _ _).alloc (Nat.le_refl _) _
    have Bb : Hid (Below w.heap.size w wb) := Lib.hid (below_of B1.out B1.out.size bb)
    have Kb : Hid (BlkL wb w.heap.size [.slice A a.length ca, .slice L l.length cl, .slice D d.length cd, .slice S n cs, .int .i64 c, .float .f32 hub, .float .f32 tip]) := Lib.hid (K1.out.below bb)
    have KY : Hid (BlkL wb w1.heap.size [.slice R2 n c2]) := Lib.hid (by rw [hwb]; exact blkL_at w1 #[.slice R2 n c2] _ rfl)
    have HFb : Hid (Fl wb R2 f2) := Lib.hid (HF2.out.below bb)
    have ky := KY.out.one
    clear bb
    go_upto_region 4 with fail
    rw [← hwb]
    clear hwb
    go_wp2_with fail
    refine (i_listOf_to _ _ (toQ a l d s n c hub tip wi sp p dn) n _ (by omega) (fun k hk wr hb => (i_toAt A L D S ca cl cd n cs c hub tip a l d s w1.heap.size w.heap.size k c2 R2 f2 wr (HP.out.2.below (below_of Bb.out Bb.out.size hb)) HSL.out (HFb.out.below hb) HL2.out (KY.out.below hb).one (Kb.out.below hb) hk hn12).mono (fun e w' ⟨r, he, hr, hb'⟩ => ⟨r, he, by rw [hr, (HAT.out k hk).2]; rfl, hb'⟩))).mono ?_
    rintro e w2 ⟨Y2, ys, rfl, hy, -, hqy, b2, rfl, oy⟩
    clear ky
    have B2 : Hid (Below w.heap.size w w2) := Lib.hid (below_of Bb.out Bb.out.size b2)
    have K2 : Hid (BlkL w2 w.heap.size [.slice A a.length ca, .slice L l.length cl, .slice D d.length cd, .slice S n cs, .int .i64 c, .float .f32 hub, .float .f32 tip]) := Lib.hid (Kb.out.below b2)
    have HY := Lib.hid hy
    have HFY : Hid (Fl w2 (some ⟨wb.heap.size, 0, none⟩) ys) := Lib.hid oy.fl
    have HQS : Hid (abS s (fun k => canon .f32 (ys.getD k 0)) (n - 1) = abS s (toQ a l d s n c hub tip wi sp p dn) (n - 1)) := Lib.hid (sum_of hn2 hqy)
    clear b2 hy hqy oy
    go_wp2_with fail
    refine wp_region_inv4 (fun iq wv v => match iq with
      | 0 => v = .pointer (some ⟨w.heap.size, 4, none⟩)
      | 1 => v = .int .i64 c
      | 2 => v = .float .f32 (floatOfInt .f32 c)
      | 3 => v = .pointer (some ⟨w.heap.size, 3, none⟩)
      | 4 => v = .slice S n cs
      | 5 => v = .slice (some ⟨wb.heap.size, 0, none⟩) n n
      | 6 => ∃ r, v = .float .f32 r ∧ canon .f32 r = abS s (toQ a l d s n c hub tip wi sp p dn) (n - 1)
      | 7 => ∃ r, v = .float .f32 r ∧ canon .f32 r = fop .mul .f32 (canon .f32 ((floatOfInt .f32 c))) (abS s (toQ a l d s n c hub tip wi sp p dn) (n - 1))
      | 8 => ∃ r, v = .tuple #[.float .f32 r, .bool (fin .f32 (toV a l d s n c hub tip wi sp p dn))] ∧ canon .f32 r = onlyN (toV a l d s n c hub tip wi sp p dn)
      | 9 => ∃ r, v = .float .f32 r ∧ canon .f32 r = onlyN (toV a l d s n c hub tip wi sp p dn)
      | 10 => v = .bool (fin .f32 (toV a l d s n c hub tip wi sp p dn))
      | 11 => ∃ r, v = .float .f32 r ∧ canon .f32 r = onlyN (toV a l d s n c hub tip wi sp p dn)
      | 12 => v = .bool (fin .f32 (toV a l d s n c hub tip wi sp p dn))
      | _ => False) (fun _ ww => Below w2.heap.size w2 ww) (fun w w' => Below w.heap.size w w') ?hmono (by kernel_rfl) (by kernel_rfl) ((Below.refl _ _).drew) ?hop ?hend
    case hmono =>
      intro i wa wb v hR hV
      rcases i with _ | _ | _ | _ | _ | _ | _ | _ | _ | _ | _ | _ | _ | i
      · exact hV
      · exact hV
      · exact hV
      · exact hV
      · exact hV
      · exact hV
      · exact hV
      · exact hV
      · exact hV
      · exact hV
      · exact hV
      · exact hV
      · exact hV
      · exact hV
    case hop =>
      intro q o hq listed act w3 hI hnot hcl hall
      have hB := hI.cls
      have m0 := ((K2.out.below hB).2 0 _ rfl).1
      have m1 := ((K2.out.below hB).2 1 _ rfl).1
      have m2 := ((K2.out.below hB).2 2 _ rfl).1
      have m3 := ((K2.out.below hB).2 3 _ rfl).1
      have m4 := ((K2.out.below hB).2 4 _ rfl).1
      have m5 := ((K2.out.below hB).2 5 _ rfl).1
      have m6 := ((K2.out.below hB).2 6 _ rfl).1
      rcases q with _ | _ | _ | _ | _ | _ | _ | _ | _ | _ | _ | _ | _ | q
      · simp at hq; subst hq
        have g5 : act.tmps[5]?.getD undef = .pointer (some ⟨w.heap.size, 0, none⟩) := hI.kept 5 (by kernel_rfl)
        clear hI hall hnot hcl
        refine .inl ⟨wanted_none rfl, ?_⟩
        unfold Oper.wp
        go_simp
        all_goals first | exact ⟨_, rfl, Below.refl _ _, rfl, hB⟩ | exact ⟨Below.refl _ _, hB⟩ | exact Below.refl _ _
      · simp at hq; subst hq
        have g32 : act.tmps[32]?.getD undef = .pointer (some ⟨w.heap.size, 4, none⟩) := hI.has 0 32 rfl (hall ⟨0, .data⟩ (by simp) rfl)
        clear hI hall hnot hcl
        refine .inl ⟨wanted_none rfl, ?_⟩
        unfold Oper.wp
        go_simp
        all_goals first | exact ⟨_, rfl, Below.refl _ _, rfl, hB⟩ | exact ⟨Below.refl _ _, hB⟩ | exact Below.refl _ _
      · simp at hq; subst hq
        have g33 : act.tmps[33]?.getD undef = .int .i64 c := hI.has 1 33 rfl (hall ⟨1, .data⟩ (by simp) rfl)
        clear hI hall hnot hcl
        refine .inl ⟨wanted_none rfl, ?_⟩
        unfold Oper.wp
        go_simp
        all_goals first | exact ⟨_, rfl, Below.refl _ _, rfl, hB⟩ | exact ⟨Below.refl _ _, hB⟩ | exact Below.refl _ _
      · simp at hq; subst hq
        have g5 : act.tmps[5]?.getD undef = .pointer (some ⟨w.heap.size, 0, none⟩) := hI.kept 5 (by kernel_rfl)
        clear hI hall hnot hcl
        refine .inl ⟨wanted_none rfl, ?_⟩
        unfold Oper.wp
        go_simp
        all_goals first | exact ⟨_, rfl, Below.refl _ _, rfl, hB⟩ | exact ⟨Below.refl _ _, hB⟩ | exact Below.refl _ _
      · simp at hq; subst hq
        have g35 : act.tmps[35]?.getD undef = .pointer (some ⟨w.heap.size, 3, none⟩) := hI.has 3 35 rfl (hall ⟨3, .data⟩ (by simp) rfl)
        clear hI hall hnot hcl
        refine .inl ⟨wanted_none rfl, ?_⟩
        unfold Oper.wp
        go_simp
        all_goals first | exact ⟨_, rfl, Below.refl _ _, rfl, hB⟩ | exact ⟨Below.refl _ _, hB⟩ | exact Below.refl _ _
      · simp at hq; subst hq
        have g15 : act.tmps[15]?.getD undef = .slice (some ⟨wb.heap.size, 0, none⟩) n n := hI.kept 15 (by kernel_rfl)
        clear hI hall hnot hcl
        refine .inl ⟨wanted_none rfl, ?_⟩
        unfold Oper.wp
        go_simp
        all_goals first | exact ⟨_, rfl, Below.refl _ _, rfl, hB⟩ | exact ⟨Below.refl _ _, hB⟩ | exact Below.refl _ _
      · simp at hq; subst hq
        have g36 : act.tmps[36]?.getD undef = .slice S n cs := hI.has 4 36 rfl (hall ⟨4, .data⟩ (by simp) rfl)
        have g37 : act.tmps[37]?.getD undef = .slice (some ⟨wb.heap.size, 0, none⟩) n n := hI.has 5 37 rfl (hall ⟨5, .data⟩ (by simp) rfl)
        clear hI hall hnot hcl
        refine .inl ⟨wanted_none rfl, ?_⟩
        unfold Oper.wp
        go_simp
        refine (i_alongBlade S (some ⟨wb.heap.size, 0, none⟩) n cs n s ys _ (HP.out.2.below (below_of B2.out B2.out.size hB)) HSL.out (HFY.out.below hB) HY.out hn2 hn12 hcs).mono ?_
        rintro e w4 ⟨r, rfl, hr, b4⟩
        exact ⟨_, rfl, b4, ⟨r, rfl, hr.trans HQS.out⟩, below_of hB hB.size b4⟩
      · simp at hq; subst hq
        have g34 : act.tmps[34]?.getD undef = .float .f32 (floatOfInt .f32 c) := hI.has 2 34 rfl (hall ⟨2, .data⟩ (by simp) rfl)
        obtain ⟨r6, g38, h6a⟩ := hI.has 6 38 rfl (hall ⟨6, .data⟩ (by simp) rfl)
        clear hI hall hnot hcl
        refine .inl ⟨wanted_none rfl, ?_⟩
        unfold Oper.wp
        go_simp
        first | exact ⟨_, rfl, below_draws (Below.refl _ _) _, ⟨_, rfl, canonF rfl h6a⟩, below_draws hB _⟩ | exact ⟨_, rfl, below_draws (Below.refl _ _) _, ⟨_, rfl, canonF rfl h6a⟩⟩
      · simp at hq; subst hq
        obtain ⟨r7, g39, h7a⟩ := hI.has 7 39 rfl (hall ⟨7, .data⟩ (by simp) rfl)
        clear hI hall hnot hcl
        refine .inl ⟨wanted_none rfl, ?_⟩
        unfold Oper.wp
        go_simp
        refine (i_onlyFiniteC _ (toV a l d s n c hub tip wi sp p dn) _ (by unfold toV; exact h7a)).mono ?_
        rintro e w4 ⟨ro, no, rfl, hro, rfl⟩
        exact ⟨_, rfl, below_draws (Below.refl _ _) _, ⟨ro, rfl, hro⟩, below_draws hB _⟩
      · simp at hq; subst hq
        obtain ⟨r8, g40, h8a⟩ := hI.has 8 40 rfl (hall ⟨8, .data⟩ (by simp) rfl)
        clear hI hall hnot hcl
        refine .inl ⟨wanted_none rfl, ?_⟩
        unfold Oper.wp
        go_simp
        first | exact ⟨_, rfl, Below.refl _ _, ⟨_, rfl, h8a⟩, hB⟩ | exact ⟨_, rfl, Below.refl _ _, ⟨_, rfl, h8a⟩⟩
      · simp at hq; subst hq
        obtain ⟨r8, g40, h8a⟩ := hI.has 8 40 rfl (hall ⟨8, .data⟩ (by simp) rfl)
        clear hI hall hnot hcl
        refine .inl ⟨wanted_none rfl, ?_⟩
        unfold Oper.wp
        go_simp
        all_goals first | exact ⟨_, rfl, Below.refl _ _, rfl, hB⟩ | exact ⟨Below.refl _ _, hB⟩ | exact Below.refl _ _
      · simp at hq; subst hq
        obtain ⟨r9, g41, h9a⟩ := hI.has 9 41 rfl (hall ⟨9, .data⟩ (by simp) rfl)
        clear hI hall hnot hcl
        refine .inl ⟨wanted_none rfl, ?_⟩
        unfold Oper.wp
        go_simp
        first | exact ⟨_, rfl, Below.refl _ _, ⟨_, rfl, h9a⟩⟩ | exact ⟨_, rfl, Below.refl _ _, ⟨_, rfl, h9a⟩, hB⟩
      · simp at hq; subst hq
        have g42 : act.tmps[42]?.getD undef = .bool (fin .f32 (toV a l d s n c hub tip wi sp p dn)) := hI.has 10 42 rfl (hall ⟨10, .data⟩ (by simp) rfl)
        clear hI hall hnot hcl
        refine .inl ⟨wanted_none rfl, ?_⟩
        unfold Oper.wp
        go_simp
        all_goals first | exact ⟨_, rfl, Below.refl _ _, rfl, hB⟩ | exact ⟨Below.refl _ _, hB⟩ | exact Below.refl _ _
      · simp at hq
    case hend =>
      intro listed act w3 hI hall
      have hB := hI.cls
      have m0 := ((K2.out.below hB).2 0 _ rfl).1
      have m1 := ((K2.out.below hB).2 1 _ rfl).1
      have m2 := ((K2.out.below hB).2 2 _ rfl).1
      have m3 := ((K2.out.below hB).2 3 _ rfl).1
      have m4 := ((K2.out.below hB).2 4 _ rfl).1
      have m5 := ((K2.out.below hB).2 5 _ rfl).1
      have m6 := ((K2.out.below hB).2 6 _ rfl).1
      obtain ⟨rq, g10, hrq⟩ := hI.has 11 10 rfl (hall 11 (by decide))
      have g11 : act.tmps[11]?.getD undef = .bool (fin .f32 (toV a l d s n c hub tip wi sp p dn)) := hI.has 12 11 rfl (hall 12 (by decide))
      have hd := hI.defers
      have HBE := Lib.hid hB
      have HRQ := Lib.hid hrq
      clear hI hall hB hrq
      go_wp2
      refine bodyPost_ret (v := .tuple #[.float .f32 rq, .bool (fin .f32 (toV a l d s n c hub tip wi sp p dn))]) (by simp [results, Tryz.results24, g10, g11, go_sem]) (by first | rfl | exact hd) ⟨rq, (by rw [(to_yes HO.out).1]), (HRQ.out.trans (by rw [(to_yes HO.out).2])), below_of B2.out B2.out.size HBE.out⟩
set_option maxHeartbeats 8000000 in
set_option maxRecDepth 100000 in
theorem i_beAt (A L D S : Option Addr) (ca cl cd n cs : Nat) (c : Int) (hub tip : Nat) (a l d s : List Nat) (By Br k cy : Nat) (Y : Option Addr) (ys : List Nat) (w : World) (hS : Fl w S s) (hs : s.length = n * 3) (hY : Fl w Y ys) (hy : ys.length = n) (ky : w.cell? ⟨By, 0, none⟩ = some (.slice Y n cy)) (kr : BlkL w Br [.slice A a.length ca, .slice L l.length cl, .slice D d.length cd, .slice S n cs, .int .i64 c, .float .f32 hub, .float .f32 tip]) (hk : k < n) (_hn12 : n ≤ 12) :
    Calls Tryz.prog 58 #[.int .i64 k, .pointer (some ⟨By, 0, none⟩), .pointer (some ⟨Br, 0, none⟩)] w fun e w' => ∃ r, e = .returned (.float .f32 r) ∧ canon .f32 r = fop .mul .f32 (canon .f32 (ys.getD k 0)) (fop .sub .f32 (canon .f32 (s.getD (k * 3) 0)) (canon .f32 hub)) ∧ Below w.heap.size w w' := by
  obtain ⟨ba, oa, rfl, -, hc⟩ := hY.at_ (k := k) (by omega)
  obtain ⟨b, off, rfl, -, hc'⟩ := hS.at_ (k := k * 3) (by omega)
  generalize ys.getD k 0 = y at hc ⊢
  generalize s.getD (k * 3) 0 = x at hc' ⊢
  have kr3 := (kr.2 3 _ rfl).1
  have kr5 := (kr.2 5 _ rfl).1
  clear hS hY kr
  have hdd : ∀ nn j, ∃ mm, (w.drewN nn).drewN j = w.drewN mm := fun nn j => ⟨nn + j, World.drewN_drewN ..⟩
  go_enter Tryz.func58, Tryz.ntmps58
  go_wp2_with fail
  refine wp_region_inv3 (fun iq v => match iq with
    | 0 => v = .slice (some ⟨ba, oa, none⟩) n cy
    | 1 => v = .int .i64 k
    | 2 => v = .pointer (some ⟨ba, oa + k, none⟩)
    | 3 => v = .float .f32 y
    | 4 => v = .pointer (some ⟨Br, 3, none⟩)
    | 5 => v = .slice (some ⟨b, off, none⟩) n cs
    | 6 => v = .int .i64 k
    | 7 => v = .pointer (some ⟨b, off + k * 3, none⟩)
    | 8 => v = .pointer (some ⟨b, off + k * 3, none⟩)
    | 9 => v = .float .f32 x
    | 10 => v = .pointer (some ⟨Br, 5, none⟩)
    | 11 => v = .float .f32 hub
    | 12 => ∃ r, v = .float .f32 r ∧ canon .f32 r = fop .sub .f32 (canon .f32 x) (canon .f32 hub)
    | 13 => ∃ r, v = .float .f32 r ∧ canon .f32 r = fop .mul .f32 (canon .f32 y) (fop .sub .f32 (canon .f32 x) (canon .f32 hub))
    | 14 => ∃ r, v = .float .f32 r ∧ canon .f32 r = fop .mul .f32 (canon .f32 y) (fop .sub .f32 (canon .f32 x) (canon .f32 hub))
    | _ => False) (fun _ ww => ∃ nn, ww = w.drewN nn) (by kernel_rfl) (by kernel_rfl) ⟨1, rfl⟩ ?hop ?hend
  case hop =>
    intro q o hq listed act w3 hI hnot hcl hall
    obtain ⟨nn, rfl⟩ := hI.cls
    rcases q with _ | _ | _ | _ | _ | _ | _ | _ | _ | _ | _ | _ | _ | _ | _ | q
    · simp at hq; subst hq
      have g1 : act.tmps[1]?.getD undef = .pointer (some ⟨By, 0, none⟩) := hI.kept 1 (by kernel_rfl)
      clear hI hall hnot hcl
      refine .inl ⟨wanted_none rfl, ?_⟩
      unfold Oper.wp
      go_simp
      all_goals exact ⟨_, rfl, rfl, ⟨_, rfl⟩⟩
    · simp at hq; subst hq
      have g0 : act.tmps[0]?.getD undef = .int .i64 k := hI.kept 0 (by kernel_rfl)
      clear hI hall hnot hcl
      refine .inl ⟨wanted_none rfl, ?_⟩
      unfold Oper.wp
      go_simp
      all_goals exact ⟨_, rfl, rfl, ⟨_, rfl⟩⟩
    · simp at hq; subst hq
      have g5 : act.tmps[5]?.getD undef = .slice (some ⟨ba, oa, none⟩) n cy := hI.has 0 5 rfl (hall ⟨0, .data⟩ (by simp) rfl)
      have g6 : act.tmps[6]?.getD undef = .int .i64 k := hI.has 1 6 rfl (hall ⟨1, .data⟩ (by simp) rfl)
      clear hI hall hnot hcl
      refine .inl ⟨wanted_none rfl, ?_⟩
      unfold Oper.wp
      go_simp
      all_goals exact ⟨_, rfl, rfl, ⟨_, rfl⟩⟩
    · simp at hq; subst hq
      have g7 : act.tmps[7]?.getD undef = .pointer (some ⟨ba, oa + k, none⟩) := hI.has 2 7 rfl (hall ⟨2, .data⟩ (by simp) rfl)
      clear hI hall hnot hcl
      refine .inl ⟨wanted_none rfl, ?_⟩
      unfold Oper.wp
      go_simp
      all_goals exact ⟨_, rfl, rfl, ⟨_, rfl⟩⟩
    · simp at hq; subst hq
      have g2 : act.tmps[2]?.getD undef = .pointer (some ⟨Br, 0, none⟩) := hI.kept 2 (by kernel_rfl)
      clear hI hall hnot hcl
      refine .inl ⟨wanted_none rfl, ?_⟩
      unfold Oper.wp
      go_simp
      all_goals exact ⟨_, rfl, rfl, ⟨_, rfl⟩⟩
    · simp at hq; subst hq
      have g9 : act.tmps[9]?.getD undef = .pointer (some ⟨Br, 3, none⟩) := hI.has 4 9 rfl (hall ⟨4, .data⟩ (by simp) rfl)
      clear hI hall hnot hcl
      refine .inl ⟨wanted_none rfl, ?_⟩
      unfold Oper.wp
      go_simp
      all_goals exact ⟨_, rfl, rfl, ⟨_, rfl⟩⟩
    · simp at hq; subst hq
      have g0 : act.tmps[0]?.getD undef = .int .i64 k := hI.kept 0 (by kernel_rfl)
      clear hI hall hnot hcl
      refine .inl ⟨wanted_none rfl, ?_⟩
      unfold Oper.wp
      go_simp
      all_goals exact ⟨_, rfl, rfl, ⟨_, rfl⟩⟩
    · simp at hq; subst hq
      have g10 : act.tmps[10]?.getD undef = .slice (some ⟨b, off, none⟩) n cs := hI.has 5 10 rfl (hall ⟨5, .data⟩ (by simp) rfl)
      have g11 : act.tmps[11]?.getD undef = .int .i64 k := hI.has 6 11 rfl (hall ⟨6, .data⟩ (by simp) rfl)
      clear hI hall hnot hcl
      refine .inl ⟨wanted_none rfl, ?_⟩
      unfold Oper.wp
      go_simp
      all_goals exact ⟨_, rfl, rfl, ⟨_, rfl⟩⟩
    · simp at hq; subst hq
      have g12 : act.tmps[12]?.getD undef = .pointer (some ⟨b, off + k * 3, none⟩) := hI.has 7 12 rfl (hall ⟨7, .data⟩ (by simp) rfl)
      clear hI hall hnot hcl
      refine .inl ⟨wanted_none rfl, ?_⟩
      unfold Oper.wp
      go_simp
      all_goals exact ⟨_, rfl, rfl, ⟨_, rfl⟩⟩
    · simp at hq; subst hq
      have g13 : act.tmps[13]?.getD undef = .pointer (some ⟨b, off + k * 3, none⟩) := hI.has 8 13 rfl (hall ⟨8, .data⟩ (by simp) rfl)
      clear hI hall hnot hcl
      refine .inl ⟨wanted_none rfl, ?_⟩
      unfold Oper.wp
      go_simp
      all_goals exact ⟨_, rfl, rfl, ⟨_, rfl⟩⟩
    · simp at hq; subst hq
      have g2 : act.tmps[2]?.getD undef = .pointer (some ⟨Br, 0, none⟩) := hI.kept 2 (by kernel_rfl)
      clear hI hall hnot hcl
      refine .inl ⟨wanted_none rfl, ?_⟩
      unfold Oper.wp
      go_simp
      all_goals exact ⟨_, rfl, rfl, ⟨_, rfl⟩⟩
    · simp at hq; subst hq
      have g15 : act.tmps[15]?.getD undef = .pointer (some ⟨Br, 5, none⟩) := hI.has 10 15 rfl (hall ⟨10, .data⟩ (by simp) rfl)
      clear hI hall hnot hcl
      refine .inl ⟨wanted_none rfl, ?_⟩
      unfold Oper.wp
      go_simp
      all_goals exact ⟨_, rfl, rfl, ⟨_, rfl⟩⟩
    · simp at hq; subst hq
      have g14 : act.tmps[14]?.getD undef = .float .f32 x := hI.has 9 14 rfl (hall ⟨9, .data⟩ (by simp) rfl)
      have g16 : act.tmps[16]?.getD undef = .float .f32 hub := hI.has 11 16 rfl (hall ⟨11, .data⟩ (by simp) rfl)
      clear hI hall hnot hcl
      refine .inl ⟨wanted_none rfl, ?_⟩
      unfold Oper.wp
      go_simp
      exact ⟨_, rfl, ⟨_, rfl, canonF rfl rfl⟩, by first | exact ⟨_, rfl⟩ | exact hdd _ _⟩
    · simp at hq; subst hq
      have g8 : act.tmps[8]?.getD undef = .float .f32 y := hI.has 3 8 rfl (hall ⟨3, .data⟩ (by simp) rfl)
      obtain ⟨r12, g17, h12a⟩ := hI.has 12 17 rfl (hall ⟨12, .data⟩ (by simp) rfl)
      clear hI hall hnot hcl
      refine .inl ⟨wanted_none rfl, ?_⟩
      unfold Oper.wp
      go_simp
      exact ⟨_, rfl, ⟨_, rfl, canonF rfl h12a⟩, by first | exact ⟨_, rfl⟩ | exact hdd _ _⟩
    · simp at hq; subst hq
      obtain ⟨r13, g18, h13a⟩ := hI.has 13 18 rfl (hall ⟨13, .data⟩ (by simp) rfl)
      clear hI hall hnot hcl
      refine .inl ⟨wanted_none rfl, ?_⟩
      unfold Oper.wp
      go_simp
      exact ⟨_, rfl, ⟨_, rfl, h13a⟩, ⟨_, rfl⟩⟩
    · simp at hq
  case hend =>
    intro listed act w3 hI hall
    obtain ⟨nn, rfl⟩ := hI.cls
    obtain ⟨rq, g4, hrq⟩ := hI.has 14 4 rfl (hall 14 (by decide))
    have hd := hI.defers
    clear hI hall
    go_wp2
    refine bodyPost_ret (v := .float .f32 rq) (by simp [results, Tryz.results58, g4, go_sem]) (by first | rfl | exact hd) ⟨rq, rfl, hrq, below_draws (Below.refl _ _) nn⟩
set_option maxHeartbeats 4000000 in
set_option maxRecDepth 100000 in
theorem i_listOf_be (c0 c1 : Value) (q : Nat → Nat) (n : Nat) (w : World) (hn : n ≤ 1048576)
    (hat : ∀ k, k < n → ∀ wr, Below w.heap.size w wr → Calls Tryz.prog 58 #[.int .i64 k, c0, c1] wr fun e w' => ∃ r, e = .returned (.float .f32 r) ∧ canon .f32 r = q k ∧ Below wr.heap.size wr w') :
    Calls Tryz.prog 56 #[.int .i64 n, .func (.func 58) #[] #[c0, c1]] w fun e w' => ∃ (A : Option Addr) (xs : List Nat), e = .returned (.slice A n n) ∧ xs.length = n ∧ Fl w' A xs ∧ (∀ k, k < n → canon .f32 (xs.getD k 0) = q k) ∧ Below w.heap.size w w' ∧ A = some ⟨w.heap.size, 0, none⟩ ∧ Own w' w.heap.size xs := by
  have hmk := make_f32 n w hn
  have HA := Lib.hid hat; clear hat
  go_enter Tryz.func56, Tryz.ntmps56
  go_wp2
  go_loopw [11] (fun i wr => ∃ (k : Nat) (ys : List Nat), k ≤ n ∧ i = .int .i64 k ∧ FlNew w wr w.heap.size n k ys ∧ ys.length = n ∧ Hid (∀ j, j < k → canon .f32 (ys.getD j 0) = q j)) (fun i _ => n - (intOf i).toNat)
  case atStart => exact ⟨0, List.replicate n 0, Nat.zero_le _, rfl, FlNew.start .., by simp, Lib.hid (fun j hj => absurd hj (Nat.not_lt_zero j))⟩
  case round =>
    obtain ⟨k, ys, hk, rfl, hnew, hlen, hq⟩ := hrel
    clear hmk
    by_cases hlt : k < n
    · have hcall := HA.out k hlt _ hnew.1
      have HN := Lib.hid hnew; clear hnew
      have hwr : IntKind.i64.wrap ((k : Int) + 1) = (k : Int) + 1 := IntWalk.i64_in _ (by omega)
      go_wp2_with fail
      refine hcall.mono ?_
      rintro e w1 ⟨r, rfl, hr, b1⟩
      have hn1 := HN.out.below b1
      obtain ⟨hc2, hc3⟩ := hn1.2.2.2 k hlt
      rw [if_neg (by omega)] at hc2
      have hst := (hn1.congr (ys := ys.set k r) (fun j hj => by rw [getD_lset (by omega), if_neg (by omega)])).step hlt
      rw [getD_lset (by omega), if_pos rfl] at hst
      have HS := Lib.hid hst
      have HQ : Hid (∀ j, j < k + 1 → canon .f32 ((ys.set k r).getD j 0) = q j) := Lib.hid (fun j hj => by
        rw [getD_lset (by omega)]
        by_cases e : k = j
        · rw [if_pos e, hr, e]
        · rw [if_neg e]; exact hq.out j (by omega))
      clear hst hn1 hr b1 hcall
      go_wp2
      go_roundw
      case rel => exact ⟨k + 1, ys.set k r, by omega, by go_num, HS.out, by simp [hlen], HQ⟩
      case measure => simp [intOf]; omega
    · have HN := Lib.hid hnew; clear hnew
      have hkk : k = n := by omega
      subst hkk
      go_wp2
      go_ret
      exact ⟨_, ys, rfl, hlen, by subst hlen; exact HN.out.done (Nat.le_refl _), hq.out, HN.out.1, rfl, by subst hlen; exact Own.of_new HN.out (Nat.le_refl _)⟩
set_option maxHeartbeats 8000000 in
set_option maxRecDepth 100000 in
theorem i_BendingOf (A L D S : Option Addr) (ca cl cd n cs : Nat) (c : Int) (hub tip : Nat) (a l d s : List Nat) (wi sp p dn : Nat) (w : World) (h : Rt w A L D S a l d s) (hn : FewR a l d s n) (hcs : n ≤ cs) :
    Calls Tryz.prog 26 #[.agg #[.slice A a.length ca, .slice L l.length cl, .slice D d.length cd, .slice S n cs, .int .i64 c, .float .f32 hub, .float .f32 tip], .float .f32 wi, .float .f32 sp, .float .f32 p, .float .f32 dn] w fun e w' => ∃ r, e = .returned (.tuple #[.float .f32 r, .bool (beO a l d s n c hub tip wi sp p dn)]) ∧ canon .f32 r = beR a l d s n c hub tip wi sp p dn ∧ Below w.heap.size w w' := by
  have HN := Lib.hid hn
  have HSL := Lib.hid hn.1
  have HP := Lib.hid h
  clear h hn
  obtain ⟨w0, hw0⟩ : ∃ q, q = w.alloc (.cells #[.slice A a.length ca, .slice L l.length cl, .slice D d.length cd, .slice S n cs, .int .i64 c, .float .f32 hub, .float .f32 tip] 35) := ⟨_, rfl⟩
  have B0 : Hid (Below w.heap.size w w0) := Lib.hid (by rw [hw0]; exact (Below.refl _ _).alloc (Nat.le_refl _) _)
  have K0 : Hid (BlkL w0 w.heap.size [.slice A a.length ca, .slice L l.length cl, .slice D d.length cd, .slice S n cs, .int .i64 c, .float .f32 hub, .float .f32 tip]) := Lib.hid (by rw [hw0]; exact blkL_at w #[.slice A a.length ca, .slice L l.length cl, .slice D d.length cd, .slice S n cs, .int .i64 c, .float .f32 hub, .float .f32 tip] _ rfl)
  have k0 := (K0.out.2 0 _ rfl).1
  have k1 := (K0.out.2 1 _ rfl).1
  have k2 := (K0.out.2 2 _ rfl).1
  have k3 := (K0.out.2 3 _ rfl).1
  have k4 := (K0.out.2 4 _ rfl).1
  have k5 := (K0.out.2 5 _ rfl).1
  have k6 := (K0.out.2 6 _ rfl).1
  go_enter Tryz.func26, Tryz.ntmps26
  go_upto_region 1 with fail
  rw [← hw0]
  clear hw0
  go_wp2_with fail
  refine (i_ForcesOfRotor A L D S ca cl cd n cs c hub tip a l d s wi sp p dn _ (HP.out.below B0.out) HN.out).mono ?_
  rintro e w1 ⟨R1, R2, c1, c2, g1, g2, rfl, ho, b1⟩
  clear k0 k1 k2 k3 k4 k5 k6
  have B1 : Hid (Below w.heap.size w w1) := Lib.hid (below_of B0.out B0.out.size b1)
  have K1 : Hid (BlkL w1 w.heap.size [.slice A a.length ca, .slice L l.length cl, .slice D d.length cd, .slice S n cs, .int .i64 c, .float .f32 hub, .float .f32 tip]) := Lib.hid (K0.out.below b1)
  clear b1
  cases hO : fcO a l d s n c hub tip wi sp p dn
  · have HNO := Lib.hid hO
    clear hO ho
    go_wp2
    go_ret2
    exact ⟨_, by rw [(be_no HNO.out).1]; rfl, by rw [(be_no HNO.out).2]; exact canon_zero, (B1.out.alloc B1.out.size _)⟩
  · have HO := Lib.hid hO
    obtain ⟨e1, e2, hn2, hn12⟩ := fc_facts hO
    have HL1 := Lib.hid e1
    have HL2 := Lib.hid e2
    have HF1 : Hid (Fl w1 R1 (fc1 a l d s n c hub tip wi sp p dn)) := Lib.hid ho.1.fl
    have HF2 : Hid (Fl w1 R2 (fc2 a l d s n c hub tip wi sp p dn)) := Lib.hid ho.2.1.fl
    have HAT : Hid (∀ k, k < n → canon .f32 ((fc1 a l d s n c hub tip wi sp p dn).getD k 0) = fcq1 a l d s n c hub tip wi sp p dn k ∧ canon .f32 ((fc2 a l d s n c hub tip wi sp p dn).getD k 0) = fcq2 a l d s n c hub tip wi sp p dn k) := Lib.hid (fun k hk => fc_at hO hk)
    rw [e1, e2]
    clear hO ho e1 e2
    generalize fc1 a l d s n c hub tip wi sp p dn = f1 at HL1 HF1 HAT ⊢
    generalize fc2 a l d s n c hub tip wi sp p dn = f2 at HL2 HF2 HAT ⊢
    obtain ⟨wb, hwb⟩ : ∃ q, q = w1.alloc (.cells #[.slice R1 n c1] 22) := ⟨_, rfl⟩
    have bb : Below w1.heap.size w1 wb := by rw [hwb]; exact (Below.refl _ _).alloc (Nat.le_refl _) _
    have Bb : Hid (Below w.heap.size w wb) := Lib.hid (below_of B1.out B1.out.size bb)
    have Kb : Hid (BlkL wb w.heap.size [.slice A a.length ca, .slice L l.length cl, .slice D d.length cd, .slice S n cs, .int .i64 c, .float .f32 hub, .float .f32 tip]) := Lib.hid (K1.out.below bb)
    have KY : Hid (BlkL wb w1.heap.size [.slice R1 n c1]) := Lib.hid (by rw [hwb]; exact blkL_at w1 #[.slice R1 n c1] _ rfl)
    have HFb : Hid (Fl wb R1 f1) := Lib.hid (HF1.out.below bb)
    have ky := KY.out.one
    clear bb
    go_upto_region 4 with fail
    rw [← hwb]
    clear hwb
    go_wp2_with fail
    refine (i_listOf_be _ _ (beQ a l d s n c hub tip wi sp p dn) n _ (by omega) (fun k hk wr hb => (i_beAt A L D S ca cl cd n cs c hub tip a l d s w1.heap.size w.heap.size k c1 R1 f1 wr (HP.out.2.below (below_of Bb.out Bb.out.size hb)) HSL.out (HFb.out.below hb) HL1.out (KY.out.below hb).one (Kb.out.below hb) hk hn12).mono (fun e w' ⟨r, he, hr, hb'⟩ => ⟨r, he, by rw [hr, (HAT.out k hk).1]; rfl, hb'⟩))).mono ?_
    rintro e w2 ⟨Y2, ys, rfl, hy, -, hqy, b2, rfl, oy⟩
    clear ky
    have B2 : Hid (Below w.heap.size w w2) := Lib.hid (below_of Bb.out Bb.out.size b2)
    have K2 : Hid (BlkL w2 w.heap.size [.slice A a.length ca, .slice L l.length cl, .slice D d.length cd, .slice S n cs, .int .i64 c, .float .f32 hub, .float .f32 tip]) := Lib.hid (Kb.out.below b2)
    have HY := Lib.hid hy
    have HFY : Hid (Fl w2 (some ⟨wb.heap.size, 0, none⟩) ys) := Lib.hid oy.fl
    have HQS : Hid (abS s (fun k => canon .f32 (ys.getD k 0)) (n - 1) = abS s (beQ a l d s n c hub tip wi sp p dn) (n - 1)) := Lib.hid (sum_of hn2 hqy)
    clear b2 hy hqy oy
    have k0 := (K2.out.2 0 _ rfl).1
    have k1 := (K2.out.2 1 _ rfl).1
    have k2 := (K2.out.2 2 _ rfl).1
    have k3 := (K2.out.2 3 _ rfl).1
    have k4 := (K2.out.2 4 _ rfl).1
    have k5 := (K2.out.2 5 _ rfl).1
    have k6 := (K2.out.2 6 _ rfl).1
    go_wp2_with fail
    refine (i_alongBlade S (some ⟨wb.heap.size, 0, none⟩) n cs n s ys _ (HP.out.2.below (below_of B2.out B2.out.size (Below.refl _ _))) HSL.out (HFY.out.below (Below.refl _ _)) HY.out hn2 hn12 hcs).mono ?_
    rintro e w3 ⟨r, rfl, hr, b3⟩
    have HR : Hid (canon .f32 r = beV a l d s n c hub tip wi sp p dn) := Lib.hid (hr.trans HQS.out)
    have B3 : Hid (Below w.heap.size w w3) := Lib.hid (below_of B2.out B2.out.size b3)
    clear hr b3
    clear k0 k1 k2 k3 k4 k5 k6
    go_wp2_with fail
    refine (i_onlyFiniteC _ _ _ HR.out).mono ?_
    rintro e w4 ⟨r4, m4, rfl, hr4, rfl⟩
    have HR4 := Lib.hid hr4
    clear hr4
    go_wp2
    go_ret2
    exact ⟨r4, by rw [(be_yes HO.out).1]; rfl, HR4.out.trans (by rw [(be_yes HO.out).2]), below_draws B3.out _⟩
set_option maxHeartbeats 8000000 in
set_option maxRecDepth 100000 in
theorem i_RotorPower (A L D S : Option Addr) (ca cl cd n cs : Nat) (c : Int) (hub tip : Nat) (a l d s : List Nat) (wi sp p dn : Nat) (w : World) (h : Rt w A L D S a l d s) (hn : FewR a l d s n) (hcs : n ≤ cs) :
    Calls Tryz.prog 28 #[.agg #[.slice A a.length ca, .slice L l.length cl, .slice D d.length cd, .slice S n cs, .int .i64 c, .float .f32 hub, .float .f32 tip], .float .f32 wi, .float .f32 sp, .float .f32 p, .float .f32 dn] w fun e w' => ∃ r, e = .returned (.tuple #[.float .f32 r, .bool (poO a l d s n c hub tip wi sp p dn)]) ∧ canon .f32 r = poR a l d s n c hub tip wi sp p dn ∧ Below w.heap.size w w' := by
  have HN := Lib.hid hn
  have HSL := Lib.hid hn.1
  have HP := Lib.hid h
  clear h hn
  obtain ⟨w0, hw0⟩ : ∃ q, q = w.alloc (.cells #[.slice A a.length ca, .slice L l.length cl, .slice D d.length cd, .slice S n cs, .int .i64 c, .float .f32 hub, .float .f32 tip] 35) := ⟨_, rfl⟩
  have B0 : Hid (Below w.heap.size w w0) := Lib.hid (by rw [hw0]; exact (Below.refl _ _).alloc (Nat.le_refl _) _)
  have K0 : Hid (BlkL w0 w.heap.size [.slice A a.length ca, .slice L l.length cl, .slice D d.length cd, .slice S n cs, .int .i64 c, .float .f32 hub, .float .f32 tip]) := Lib.hid (by rw [hw0]; exact blkL_at w #[.slice A a.length ca, .slice L l.length cl, .slice D d.length cd, .slice S n cs, .int .i64 c, .float .f32 hub, .float .f32 tip] _ rfl)
  have k0 := (K0.out.2 0 _ rfl).1
  have k1 := (K0.out.2 1 _ rfl).1
  have k2 := (K0.out.2 2 _ rfl).1
  have k3 := (K0.out.2 3 _ rfl).1
  have k4 := (K0.out.2 4 _ rfl).1
  have k5 := (K0.out.2 5 _ rfl).1
  have k6 := (K0.out.2 6 _ rfl).1
  go_enter Tryz.func28, Tryz.ntmps28
  go_upto_region 1 with fail
  rw [← hw0]
  clear hw0
  go_wp2_with fail
  refine (i_TorqueOf A L D S ca cl cd n cs c hub tip a l d s wi sp p dn _ (HP.out.below B0.out) HN.out hcs).mono ?_
  rintro e w1 ⟨r, rfl, hr, b1⟩
  have HR := Lib.hid hr
  clear k0 k1 k2 k3 k4 k5 k6
  have B1 : Hid (Below w.heap.size w w1) := Lib.hid (below_of B0.out B0.out.size b1)
  clear b1 hr
  cases hO : toO a l d s n c hub tip wi sp p dn
  · have HNO := Lib.hid hO
    clear hO
    go_wp2
    go_ret2
    exact ⟨_, by rw [(po_no HNO.out).1]; rfl, by rw [(po_no HNO.out).2]; exact canon_zero, B1.out⟩
  · have HO := Lib.hid hO
    clear hO
    go_wp2_with fail
    refine (i_onlyFiniteC _ (poV a l d s n c hub tip wi sp p dn) _ (by unfold poV; exact canonF HR.out rfl)).mono ?_
    rintro e w4 ⟨r4, m4, rfl, hr4, rfl⟩
    have HR4 := Lib.hid hr4
    clear hr4
    go_wp2
    go_ret2
    exact ⟨r4, by rw [(po_yes HO.out).1]; rfl, HR4.out.trans (by rw [(po_yes HO.out).2]), by repeat (first | exact B1.out | refine below_draws ?_ _)⟩
end Go.Proofs.YtahbcpjipomcgaaGreat
namespace Go.Proofs.YtahbcpjipomcgaaGreat
open Go Go.RowKit
theorem Own.putH {w : World} {B k x : Nat} {xs : List Nat} (h : Own w B xs) (hk : k < xs.length) : Own (w.setCell ⟨B, k, none⟩ (.float .f32 x)) B (xs.set k x) := by
  refine ⟨by simpa [World.setCell] using h.1, fun j hj => ?_⟩
  rw [List.length_set] at hj
  obtain ⟨h1, h2⟩ := h.2 j hj
  refine ⟨?_, by rw [World.frozen?_setCell]; exact h2⟩
  by_cases e : j = k
  · subst e
    rw [World.cell?_setCell_same (h := h1)]
    simp [List.getD, hj]
  · rw [World.cell?_setCell_other (h := by intro hh; simp only [Addr.mk.injEq] at hh; omega), h1]
    simp [List.getD, List.getElem?_set_ne (Ne.symm e)]
theorem OwnO.some' {w : World} {B0 b : Nat} {A : Option Addr} {xs : List Nat} (h : OwnO w B0 A b xs) (hx : xs ≠ []) : A = some ⟨b, 0, none⟩ ∧ B0 ≤ b ∧ Own w b xs := by
  rcases h with h | h
  · exact absurd h hx
  · exact h
theorem ne_nil_of {xs : List Nat} {n : Nat} (h : xs.length = n) (h2 : 2 ≤ n) : xs ≠ [] := by intro e; rw [e] at h; simp at h; omega
/-- a list, of whose numbers the first k are turned -/
def Part (n : Nat) (q q' : Nat → Nat) (k : Nat) (zs : List Nat) : Prop := zs.length = n ∧ ∀ j, j < n → canon .f32 (zs.getD j 0) = if j < k then q' j else q j
theorem Part.start {n : Nat} {q q' : Nat → Nat} {zs : List Nat} (h : zs.length = n) (hq : ∀ j, j < n → canon .f32 (zs.getD j 0) = q j) : Part n q q' 0 zs := ⟨h, fun j hj => by rw [if_neg (Nat.not_lt_zero j)]; exact hq j hj⟩
theorem Part.put {n k v : Nat} {q q' : Nat → Nat} {zs : List Nat} (h : Part n q q' k zs) (hk : k < n) (hv : canon .f32 v = q' k) : Part n q q' (k + 1) (zs.set k v) := by
  refine ⟨by rw [List.length_set]; exact h.1, fun j hj => ?_⟩
  rw [getD_lset (by rw [h.1]; exact hk)]
  by_cases e : k = j
  · subst e; rw [if_pos rfl, if_pos (by omega)]; exact hv
  · rw [if_neg e, h.2 j hj]
    by_cases g : j < k
    · rw [if_pos g, if_pos (by omega)]
    · rw [if_neg g, if_neg (by omega)]
theorem Part.at_ {n k : Nat} {q q' : Nat → Nat} {zs : List Nat} (h : Part n q q' k zs) (hk : k < n) : canon .f32 (zs.getD k 0) = q k := by rw [h.2 k hk, if_neg (Nat.lt_irrefl k)]
theorem Part.end_ {n : Nat} {q q' : Nat → Nat} {zs : List Nat} (h : Part n q q' n zs) : ∀ k, k < n → canon .f32 (zs.getD k 0) = q' k := fun k hk => by rw [h.2 k hk, if_pos hk]
set_option maxHeartbeats 8000000 in
set_option maxRecDepth 100000 in
theorem s_ThrustOf (A L D S : Option Addr) (ca cl cd n cs : Nat) (c : Int) (hub tip : Nat) (a l d s : List Nat) (wi sp p dn : Nat) (w : World) (h : Rt w A L D S a l d s) (hn : FewR a l d s n) :
    Calls Tryz.prog 20 #[.agg #[.slice A a.length ca, .slice L l.length cl, .slice D d.length cd, .slice S n cs, .int .i64 c, .float .f32 hub, .float .f32 tip], .float .f32 wi, .float .f32 sp, .float .f32 p, .float .f32 dn] w fun e w' => ∃ r, e = .returned (.tuple #[.float .f32 r, .bool (thO a l d s n c hub tip wi sp p dn)]) ∧ canon .f32 r = thR a l d s n c hub tip wi sp p dn ∧ Below w.heap.size w w' := by
  have HN := Lib.hid hn
  have HSL := Lib.hid hn.1
  have HP := Lib.hid h
  clear h hn
  obtain ⟨w0, hw0⟩ : ∃ q, q = w.alloc (.cells #[.slice A a.length ca, .slice L l.length cl, .slice D d.length cd, .slice S n cs, .int .i64 c, .float .f32 hub, .float .f32 tip] 35) := ⟨_, rfl⟩
  have B0 : Hid (Below w.heap.size w w0) := Lib.hid (by rw [hw0]; exact (Below.refl _ _).alloc (Nat.le_refl _) _)
  have K0 : Hid (Blk7 w0 w.heap.size A L D S a l d ca cl cd n cs c hub tip) := Lib.hid (by rw [hw0]; exact blk7_at w A L D S a l d ca cl cd n cs c hub tip _ rfl)
  go_enter Tryz.func20, Tryz.ntmps20
  go_upto_region 1 with fail
  rw [← hw0]
  clear hw0
  go_wp2_with fail
  refine (s_l03All A L D S ca cl cd n cs c hub tip a l d s w.heap.size wi sp p dn _ (HP.out.below B0.out) HN.out K0.out).mono ?_
  rintro e w1 ⟨R1, R2, c1, c2, g1, g2, rfl, ho, b1⟩
  have B1 : Hid (Below w.heap.size w w1) := Lib.hid (below_of B0.out B0.out.size b1)
  have K1 : Hid (Blk7 w1 w.heap.size A L D S a l d ca cl cd n cs c hub tip) := Lib.hid (K0.out.below b1)
  clear b1
  cases hO : fcO a l d s n c hub tip wi sp p dn
  · have HNO := Lib.hid hO
    clear hO ho
    go_wp2
    go_ret2
    exact ⟨_, by rw [(th_no HNO.out).1]; rfl, by rw [(th_no HNO.out).2]; exact canon_zero, B1.out⟩
  · skip
    have HO := Lib.hid hO
    obtain ⟨e1, e2, hn2, hn12⟩ := fc_facts hO
    have HL1 := Lib.hid e1
    have HL2 := Lib.hid e2
    have HAT : Hid (∀ k, k < n → canon .f32 ((fc1 a l d s n c hub tip wi sp p dn).getD k 0) = fcq1 a l d s n c hub tip wi sp p dn k ∧ canon .f32 ((fc2 a l d s n c hub tip wi sp p dn).getD k 0) = fcq2 a l d s n c hub tip wi sp p dn k) := Lib.hid (fun k hk => fc_at hO hk)
    rw [e1, e2]
    have HF1 : Hid (Fl w1 R1 (fc1 a l d s n c hub tip wi sp p dn)) := Lib.hid ho.1.fl
    clear hO ho e1 e2
    generalize fc1 a l d s n c hub tip wi sp p dn = f1 at HL1 HF1 HAT ⊢
    have HQS : Hid (abS s (fun k => canon .f32 (f1.getD k 0)) (n - 1) = abS s (fcq1 a l d s n c hub tip wi sp p dn) (n - 1)) := Lib.hid (sum_of hn2 (fun k hk => (HAT.out k hk).1))
    go_wp2_with fail
    refine wp_region_inv4 (fun iq wv v => match iq with
      | 0 => v = .pointer (some ⟨w.heap.size, 4, none⟩)
      | 1 => v = .int .i64 c
      | 2 => v = .float .f32 (floatOfInt .f32 c)
      | 3 => v = .slice R1 n c1
      | 4 => ∃ r, v = .float .f32 r ∧ canon .f32 r = abS s (fcq1 a l d s n c hub tip wi sp p dn) (n - 1)
      | 5 => ∃ r, v = .float .f32 r ∧ canon .f32 r = fop .mul .f32 (canon .f32 ((floatOfInt .f32 c))) (abS s (fcq1 a l d s n c hub tip wi sp p dn) (n - 1))
      | 6 => ∃ r, v = .tuple #[.float .f32 r, .bool (fin .f32 (thV a l d s n c hub tip wi sp p dn))] ∧ canon .f32 r = onlyN (thV a l d s n c hub tip wi sp p dn)
      | 7 => ∃ r, v = .float .f32 r ∧ canon .f32 r = onlyN (thV a l d s n c hub tip wi sp p dn)
      | 8 => v = .bool (fin .f32 (thV a l d s n c hub tip wi sp p dn))
      | 9 => ∃ r, v = .float .f32 r ∧ canon .f32 r = onlyN (thV a l d s n c hub tip wi sp p dn)
      | 10 => v = .bool (fin .f32 (thV a l d s n c hub tip wi sp p dn))
      | _ => False) (fun _ ww => Below w1.heap.size w1 ww) (fun w w' => Below w.heap.size w w') ?hmono (by kernel_rfl) (by kernel_rfl) ((Below.refl _ _).drew) ?hop ?hend
    case hmono =>
      intro i wa wb v hR hV
      rcases i with _ | _ | _ | _ | _ | _ | _ | _ | _ | _ | _ | i
      · exact hV
      · exact hV
      · exact hV
      · exact hV
      · exact hV
      · exact hV
      · exact hV
      · exact hV
      · exact hV
      · exact hV
      · exact hV
      · exact hV
    case hop =>
      intro q o hq listed act w3 hI hnot hcl hall
      have hB := hI.cls
      obtain ⟨m0, m1, m2, m3, m4, m5, m6⟩ := (K1.out.below hB).limbs
      rcases q with _ | _ | _ | _ | _ | _ | _ | _ | _ | _ | _ | q
      · simp at hq; subst hq
        have g5 : act.tmps[5]?.getD undef = .pointer (some ⟨w.heap.size, 0, none⟩) := hI.kept 5 (by kernel_rfl)
        clear hI hall hnot hcl
        refine .inl ⟨wanted_none rfl, ?_⟩
        unfold Oper.wp
        go_simp
        all_goals first | exact ⟨_, rfl, Below.refl _ _, rfl, hB⟩ | exact ⟨Below.refl _ _, hB⟩ | exact Below.refl _ _
      · simp at hq; subst hq
        have g26 : act.tmps[26]?.getD undef = .pointer (some ⟨w.heap.size, 4, none⟩) := hI.has 0 26 rfl (hall ⟨0, .data⟩ (by simp) rfl)
        clear hI hall hnot hcl
        refine .inl ⟨wanted_none rfl, ?_⟩
        unfold Oper.wp
        go_simp
        all_goals first | exact ⟨_, rfl, Below.refl _ _, rfl, hB⟩ | exact ⟨Below.refl _ _, hB⟩ | exact Below.refl _ _
      · simp at hq; subst hq
        have g27 : act.tmps[27]?.getD undef = .int .i64 c := hI.has 1 27 rfl (hall ⟨1, .data⟩ (by simp) rfl)
        clear hI hall hnot hcl
        refine .inl ⟨wanted_none rfl, ?_⟩
        unfold Oper.wp
        go_simp
        all_goals first | exact ⟨_, rfl, Below.refl _ _, rfl, hB⟩ | exact ⟨Below.refl _ _, hB⟩ | exact Below.refl _ _
      · simp at hq; subst hq
        have g12 : act.tmps[12]?.getD undef = .slice R1 n c1 := hI.kept 12 (by kernel_rfl)
        clear hI hall hnot hcl
        refine .inl ⟨wanted_none rfl, ?_⟩
        unfold Oper.wp
        go_simp
        all_goals first | exact ⟨_, rfl, Below.refl _ _, rfl, hB⟩ | exact ⟨Below.refl _ _, hB⟩ | exact Below.refl _ _
      · simp at hq; subst hq
        have g5 : act.tmps[5]?.getD undef = .pointer (some ⟨w.heap.size, 0, none⟩) := hI.kept 5 (by kernel_rfl)
        have g29 : act.tmps[29]?.getD undef = .slice R1 n c1 := hI.has 3 29 rfl (hall ⟨3, .data⟩ (by simp) rfl)
        clear hI hall hnot hcl
        refine .inl ⟨wanted_none rfl, ?_⟩
        unfold Oper.wp
        go_simp
        refine (s_l03Sum A L D S ca cl cd n cs c hub tip a l d s w.heap.size c1 R1 f1 _ (HP.out.2.below (below_of B1.out B1.out.size hB)) HSL.out (HF1.out.below hB) HL1.out hn2 hn12 (K1.out.below hB)).mono ?_
        rintro e w4 ⟨r, rfl, hr, m, rfl⟩
        exact ⟨_, rfl, below_draws (Below.refl _ _) _, ⟨r, rfl, hr.trans HQS.out⟩, below_draws hB _⟩
      · simp at hq; subst hq
        have g28 : act.tmps[28]?.getD undef = .float .f32 (floatOfInt .f32 c) := hI.has 2 28 rfl (hall ⟨2, .data⟩ (by simp) rfl)
        obtain ⟨r4, g30, h4a⟩ := hI.has 4 30 rfl (hall ⟨4, .data⟩ (by simp) rfl)
        clear hI hall hnot hcl
        refine .inl ⟨wanted_none rfl, ?_⟩
        unfold Oper.wp
        go_simp
        first | exact ⟨_, rfl, below_draws (Below.refl _ _) _, ⟨_, rfl, canonF rfl h4a⟩, below_draws hB _⟩ | exact ⟨_, rfl, below_draws (Below.refl _ _) _, ⟨_, rfl, canonF rfl h4a⟩⟩
      · simp at hq; subst hq
        obtain ⟨r5, g31, h5a⟩ := hI.has 5 31 rfl (hall ⟨5, .data⟩ (by simp) rfl)
        clear hI hall hnot hcl
        refine .inl ⟨wanted_none rfl, ?_⟩
        unfold Oper.wp
        go_simp
        refine (s_l03NumberC _ (thV a l d s n c hub tip wi sp p dn) _ (by unfold thV; exact h5a)).mono ?_
        rintro e w4 ⟨ro, no, rfl, hro, rfl⟩
        exact ⟨_, rfl, below_draws (Below.refl _ _) _, ⟨ro, rfl, hro⟩, below_draws hB _⟩
      · simp at hq; subst hq
        obtain ⟨r6, g32, h6a⟩ := hI.has 6 32 rfl (hall ⟨6, .data⟩ (by simp) rfl)
        clear hI hall hnot hcl
        refine .inl ⟨wanted_none rfl, ?_⟩
        unfold Oper.wp
        go_simp
        first | exact ⟨_, rfl, Below.refl _ _, ⟨_, rfl, h6a⟩, hB⟩ | exact ⟨_, rfl, Below.refl _ _, ⟨_, rfl, h6a⟩⟩
      · simp at hq; subst hq
        obtain ⟨r6, g32, h6a⟩ := hI.has 6 32 rfl (hall ⟨6, .data⟩ (by simp) rfl)
        clear hI hall hnot hcl
        refine .inl ⟨wanted_none rfl, ?_⟩
        unfold Oper.wp
        go_simp
        all_goals first | exact ⟨_, rfl, Below.refl _ _, rfl, hB⟩ | exact ⟨Below.refl _ _, hB⟩ | exact Below.refl _ _
      · simp at hq; subst hq
        obtain ⟨r7, g33, h7a⟩ := hI.has 7 33 rfl (hall ⟨7, .data⟩ (by simp) rfl)
        clear hI hall hnot hcl
        refine .inl ⟨wanted_none rfl, ?_⟩
        unfold Oper.wp
        go_simp
        first | exact ⟨_, rfl, Below.refl _ _, ⟨_, rfl, h7a⟩⟩ | exact ⟨_, rfl, Below.refl _ _, ⟨_, rfl, h7a⟩, hB⟩
      · simp at hq; subst hq
        have g34 : act.tmps[34]?.getD undef = .bool (fin .f32 (thV a l d s n c hub tip wi sp p dn)) := hI.has 8 34 rfl (hall ⟨8, .data⟩ (by simp) rfl)
        clear hI hall hnot hcl
        refine .inl ⟨wanted_none rfl, ?_⟩
        unfold Oper.wp
        go_simp
        all_goals first | exact ⟨_, rfl, Below.refl _ _, rfl, hB⟩ | exact ⟨Below.refl _ _, hB⟩ | exact Below.refl _ _
      · simp at hq
    case hend =>
      intro listed act w3 hI hall
      have hB := hI.cls
      obtain ⟨m0, m1, m2, m3, m4, m5, m6⟩ := (K1.out.below hB).limbs
      obtain ⟨rq, g10, hrq⟩ := hI.has 9 10 rfl (hall 9 (by decide))
      have g11 : act.tmps[11]?.getD undef = .bool (fin .f32 (thV a l d s n c hub tip wi sp p dn)) := hI.has 10 11 rfl (hall 10 (by decide))
      have hd := hI.defers
      have HBE := Lib.hid hB
      have HRQ := Lib.hid hrq
      clear hI hall hB hrq m0 m1 m2 m3 m4 m5 m6
      go_wp2
      refine bodyPost_ret (v := .tuple #[.float .f32 rq, .bool (fin .f32 (thV a l d s n c hub tip wi sp p dn))]) (by simp [results, Tryz.results20, g10, g11, go_sem]) (by first | rfl | exact hd) ⟨rq, (by rw [(th_yes HO.out).1]), (HRQ.out.trans (by rw [(th_yes HO.out).2])), below_of B1.out B1.out.size HBE.out⟩
set_option maxHeartbeats 8000000 in
set_option maxRecDepth 100000 in
theorem s_l03Torque (A L D S : Option Addr) (ca cl cd n cs : Nat) (c : Int) (hub tip : Nat) (a l d s : List Nat) (B wi sp p dn : Nat) (w : World) (h : Rt w A L D S a l d s) (hn : FewR a l d s n) (hk : Blk7 w B A L D S a l d ca cl cd n cs c hub tip) :
    Calls Tryz.prog 55 #[.pointer (some ⟨B, 0, none⟩), .float .f32 wi, .float .f32 sp, .float .f32 p, .float .f32 dn] w fun e w' => ∃ r, e = .returned (.tuple #[.float .f32 r, .bool (toO a l d s n c hub tip wi sp p dn)]) ∧ canon .f32 r = toR a l d s n c hub tip wi sp p dn ∧ Below w.heap.size w w' := by
  have HN := Lib.hid hn
  have HSL := Lib.hid hn.1
  have HP := Lib.hid h
  have HK := Lib.hid hk
  clear h hn hk
  go_enter Tryz.func55, Tryz.ntmps55
  go_wp2_with fail
  refine (s_l03All A L D S ca cl cd n cs c hub tip a l d s B wi sp p dn _ HP.out HN.out HK.out).mono ?_
  rintro e w1 ⟨R1, R2, c1, c2, g1, g2, rfl, ho, b1⟩
  have B1 : Hid (Below w.heap.size w w1) := Lib.hid b1
  clear b1
  cases hO : fcO a l d s n c hub tip wi sp p dn
  · have HNO := Lib.hid hO
    clear hO ho
    go_wp2
    go_ret2
    exact ⟨_, by rw [(to_no HNO.out).1]; rfl, by rw [(to_no HNO.out).2]; exact canon_zero, B1.out⟩
  · skip
    have HO := Lib.hid hO
    obtain ⟨e1, e2, hn2, hn12⟩ := fc_facts hO
    have HL1 := Lib.hid e1
    have HL2 := Lib.hid e2
    have HAT : Hid (∀ k, k < n → canon .f32 ((fc1 a l d s n c hub tip wi sp p dn).getD k 0) = fcq1 a l d s n c hub tip wi sp p dn k ∧ canon .f32 ((fc2 a l d s n c hub tip wi sp p dn).getD k 0) = fcq2 a l d s n c hub tip wi sp p dn k) := Lib.hid (fun k hk => fc_at hO hk)
    rw [e1, e2]
    obtain ⟨eA, hlo, hown⟩ := ho.2.1.some' (ne_nil_of e2 hn2)
    subst eA
    have HLO := Lib.hid (B1.out.size)
    have HGE : Hid (w.heap.size ≤ g2) := Lib.hid (Nat.le_trans (Nat.le_refl _) hlo)
    have HOW := Lib.hid hown
    have HPA : Hid (Part n (fcq2 a l d s n c hub tip wi sp p dn) (toQ a l d s n c hub tip wi sp p dn) 0 (fc2 a l d s n c hub tip wi sp p dn)) := Lib.hid (Part.start e2 (fun j hj => (HAT.out j hj).2))
    clear ho hlo hown hO e1 e2
    generalize fc2 a l d s n c hub tip wi sp p dn = f0 at HOW HPA ⊢
    go_wp2_with fail
    go_loopw [30] (fun i wr => ∃ (k : Nat) (zs : List Nat), k ≤ n ∧ i = .int .i64 k ∧ Hid (Own wr g2 zs) ∧ Hid (Part n (fcq2 a l d s n c hub tip wi sp p dn) (toQ a l d s n c hub tip wi sp p dn) k zs) ∧ Hid (Below w.heap.size w wr)) (fun i _ => n - (intOf i).toNat)
    case atStart => exact ⟨0, f0, Nat.zero_le _, rfl, HOW, HPA, B1⟩
    case round =>
      obtain ⟨k, zs, hk, rfl, HZ, HPK, HBW⟩ := hrel
      by_cases hlt : k < n
      · obtain ⟨hcz, hfz⟩ := HZ.out.2 k (by rw [HPK.out.1]; exact hlt)
        have FW := HP.out.2.below (HBW.out)
        obtain ⟨b, off, rfl, -, hcs⟩ := FW.at_ (k := k * 3) (by rw [HSL.out]; omega)
        obtain ⟨k0, k1, k2, k3, k4, k5, k6⟩ := (HK.out.below HBW.out).limbs
        have HV : Hid (∀ W, canon .f32 (fopV .mul .f32 (zs.getD k 0) (s.getD (k * 3) 0) W) = toQ a l d s n c hub tip wi sp p dn k) := Lib.hid (fun W => by have e := HPK.out.at_ hlt; rw [canon_fopV, e]; rfl)
        clear FW
        generalize zs.getD k 0 = z at hcz HV
        generalize s.getD (k * 3) 0 = x at hcs HV
        clear k0 k1 k2 k4 k6
        go_wp2_with fail
        go_region
        all_goals
          clear hcz hfz hcs k3 k5
          go_wp2
          go_roundw
          case rel => exact ⟨k + 1, zs.set k _, by omega, by go_num, Lib.hid ((show Own (World.drewN wr _) g2 zs from HZ.out).putH (by rw [HPK.out.1]; exact hlt)), Lib.hid (HPK.out.put hlt (HV.out _)), Lib.hid ((below_draws HBW.out _).setCell (p := ⟨g2, k, none⟩) HGE.out _)⟩
          case measure => simp [intOf]; omega
      · have hkk : k = n := by omega
        have HPE : Hid (∀ j, j < n → canon .f32 (zs.getD j 0) = toQ a l d s n c hub tip wi sp p dn j) := Lib.hid (by have := HPK.out; rw [hkk] at this; exact this.end_)
        have HZF : Hid (Fl wr (some ⟨g2, 0, none⟩) zs) := Lib.hid HZ.out.fl
        have HZL : Hid (zs.length = n) := Lib.hid HPK.out.1
        have HQS : Hid (abS s (fun j => canon .f32 (zs.getD j 0)) (n - 1) = abS s (toQ a l d s n c hub tip wi sp p dn) (n - 1)) := Lib.hid (sum_of hn2 HPE.out)
        have KW : Hid (Blk7 wr B A L D S a l d ca cl cd n cs c hub tip) := Lib.hid (HK.out.below HBW.out)
        have BW : Hid (Below w.heap.size w wr) := Lib.hid (HBW.out)
        clear HZ HPK HPE hk hkk
        go_wp2_with fail
        refine wp_region_inv4 (fun iq wv v => match iq with
          | 0 => v = .pointer (some ⟨B, 0, none⟩)
          | 1 => v = .pointer (some ⟨B, 0, none⟩)
          | 2 => v = .pointer (some ⟨B, 4, none⟩)
          | 3 => v = .int .i64 c
          | 4 => v = .float .f32 (floatOfInt .f32 c)
          | 5 => v = .pointer (some ⟨B, 0, none⟩)
          | 6 => v = .slice (some ⟨g2, 0, none⟩) n c2
          | 7 => ∃ r, v = .float .f32 r ∧ canon .f32 r = abS s (toQ a l d s n c hub tip wi sp p dn) (n - 1)
          | 8 => ∃ r, v = .float .f32 r ∧ canon .f32 r = fop .mul .f32 (canon .f32 ((floatOfInt .f32 c))) (abS s (toQ a l d s n c hub tip wi sp p dn) (n - 1))
          | 9 => ∃ r, v = .tuple #[.float .f32 r, .bool (fin .f32 (toV a l d s n c hub tip wi sp p dn))] ∧ canon .f32 r = onlyN (toV a l d s n c hub tip wi sp p dn)
          | 10 => ∃ r, v = .float .f32 r ∧ canon .f32 r = onlyN (toV a l d s n c hub tip wi sp p dn)
          | 11 => v = .bool (fin .f32 (toV a l d s n c hub tip wi sp p dn))
          | 12 => ∃ r, v = .float .f32 r ∧ canon .f32 r = onlyN (toV a l d s n c hub tip wi sp p dn)
          | 13 => v = .bool (fin .f32 (toV a l d s n c hub tip wi sp p dn))
          | _ => False) (fun _ ww => Below wr.heap.size wr ww) (fun w w' => Below w.heap.size w w') ?hmono (by kernel_rfl) (by kernel_rfl) ((Below.refl _ _).drew) ?hop ?hend
        case hmono =>
          intro i wa wb v hR hV
          rcases i with _ | _ | _ | _ | _ | _ | _ | _ | _ | _ | _ | _ | _ | _ | i
          · exact hV
          · exact hV
          · exact hV
          · exact hV
          · exact hV
          · exact hV
          · exact hV
          · exact hV
          · exact hV
          · exact hV
          · exact hV
          · exact hV
          · exact hV
          · exact hV
          · exact hV
        case hop =>
          intro q o hq listed act w3 hI hnot hcl hall
          have hB := hI.cls
          obtain ⟨m0, m1, m2, m3, m4, m5, m6⟩ := (KW.out.below hB).limbs
          rcases q with _ | _ | _ | _ | _ | _ | _ | _ | _ | _ | _ | _ | _ | _ | q
          · simp at hq; subst hq
            have g0 : act.tmps[0]?.getD undef = .pointer (some ⟨B, 0, none⟩) := hI.kept 0 (by kernel_rfl)
            clear hI hall hnot hcl
            refine .inl ⟨wanted_none rfl, ?_⟩
            unfold Oper.wp
            go_simp
            all_goals first | exact ⟨_, rfl, Below.refl _ _, rfl, hB⟩ | exact ⟨Below.refl _ _, hB⟩ | exact Below.refl _ _
          · simp at hq; subst hq
            have g50 : act.tmps[50]?.getD undef = .pointer (some ⟨B, 0, none⟩) := hI.has 0 50 rfl (hall ⟨0, .data⟩ (by simp) rfl)
            clear hI hall hnot hcl
            refine .inl ⟨wanted_none rfl, ?_⟩
            unfold Oper.wp
            go_simp
            all_goals first | exact ⟨_, rfl, Below.refl _ _, rfl, hB⟩ | exact ⟨Below.refl _ _, hB⟩ | exact Below.refl _ _
          · simp at hq; subst hq
            have g51 : act.tmps[51]?.getD undef = .pointer (some ⟨B, 0, none⟩) := hI.has 1 51 rfl (hall ⟨1, .data⟩ (by simp) rfl)
            clear hI hall hnot hcl
            refine .inl ⟨wanted_none rfl, ?_⟩
            unfold Oper.wp
            go_simp
            all_goals first | exact ⟨_, rfl, Below.refl _ _, rfl, hB⟩ | exact ⟨Below.refl _ _, hB⟩ | exact Below.refl _ _
          · simp at hq; subst hq
            have g52 : act.tmps[52]?.getD undef = .pointer (some ⟨B, 4, none⟩) := hI.has 2 52 rfl (hall ⟨2, .data⟩ (by simp) rfl)
            clear hI hall hnot hcl
            refine .inl ⟨wanted_none rfl, ?_⟩
            unfold Oper.wp
            go_simp
            all_goals first | exact ⟨_, rfl, Below.refl _ _, rfl, hB⟩ | exact ⟨Below.refl _ _, hB⟩ | exact Below.refl _ _
          · simp at hq; subst hq
            have g53 : act.tmps[53]?.getD undef = .int .i64 c := hI.has 3 53 rfl (hall ⟨3, .data⟩ (by simp) rfl)
            clear hI hall hnot hcl
            refine .inl ⟨wanted_none rfl, ?_⟩
            unfold Oper.wp
            go_simp
            all_goals first | exact ⟨_, rfl, Below.refl _ _, rfl, hB⟩ | exact ⟨Below.refl _ _, hB⟩ | exact Below.refl _ _
          · simp at hq; subst hq
            have g0 : act.tmps[0]?.getD undef = .pointer (some ⟨B, 0, none⟩) := hI.kept 0 (by kernel_rfl)
            clear hI hall hnot hcl
            refine .inl ⟨wanted_none rfl, ?_⟩
            unfold Oper.wp
            go_simp
            all_goals first | exact ⟨_, rfl, Below.refl _ _, rfl, hB⟩ | exact ⟨Below.refl _ _, hB⟩ | exact Below.refl _ _
          · simp at hq; subst hq
            have g13 : act.tmps[13]?.getD undef = .slice (some ⟨g2, 0, none⟩) n c2 := hI.kept 13 (by kernel_rfl)
            clear hI hall hnot hcl
            refine .inl ⟨wanted_none rfl, ?_⟩
            unfold Oper.wp
            go_simp
            all_goals first | exact ⟨_, rfl, Below.refl _ _, rfl, hB⟩ | exact ⟨Below.refl _ _, hB⟩ | exact Below.refl _ _
          · simp at hq; subst hq
            have g55 : act.tmps[55]?.getD undef = .pointer (some ⟨B, 0, none⟩) := hI.has 5 55 rfl (hall ⟨5, .data⟩ (by simp) rfl)
            have g56 : act.tmps[56]?.getD undef = .slice (some ⟨g2, 0, none⟩) n c2 := hI.has 6 56 rfl (hall ⟨6, .data⟩ (by simp) rfl)
            clear hI hall hnot hcl
            refine .inl ⟨wanted_none rfl, ?_⟩
            unfold Oper.wp
            go_simp
            refine (s_l03Sum A L D S ca cl cd n cs c hub tip a l d s B c2 (some ⟨g2, 0, none⟩) zs _ (HP.out.2.below (below_of BW.out BW.out.size hB)) HSL.out (HZF.out.below hB) HZL.out hn2 hn12 (KW.out.below hB)).mono ?_
            rintro e w4 ⟨r, rfl, hr, m, rfl⟩
            exact ⟨_, rfl, below_draws (Below.refl _ _) _, ⟨r, rfl, hr.trans HQS.out⟩, below_draws hB _⟩
          · simp at hq; subst hq
            have g54 : act.tmps[54]?.getD undef = .float .f32 (floatOfInt .f32 c) := hI.has 4 54 rfl (hall ⟨4, .data⟩ (by simp) rfl)
            obtain ⟨r7, g57, h7a⟩ := hI.has 7 57 rfl (hall ⟨7, .data⟩ (by simp) rfl)
            clear hI hall hnot hcl
            refine .inl ⟨wanted_none rfl, ?_⟩
            unfold Oper.wp
            go_simp
            first | exact ⟨_, rfl, below_draws (Below.refl _ _) _, ⟨_, rfl, canonF rfl h7a⟩, below_draws hB _⟩ | exact ⟨_, rfl, below_draws (Below.refl _ _) _, ⟨_, rfl, canonF rfl h7a⟩⟩
          · simp at hq; subst hq
            obtain ⟨r8, g58, h8a⟩ := hI.has 8 58 rfl (hall ⟨8, .data⟩ (by simp) rfl)
            clear hI hall hnot hcl
            refine .inl ⟨wanted_none rfl, ?_⟩
            unfold Oper.wp
            go_simp
            refine (s_l03NumberC _ (toV a l d s n c hub tip wi sp p dn) _ (by unfold toV; exact h8a)).mono ?_
            rintro e w4 ⟨ro, no, rfl, hro, rfl⟩
            exact ⟨_, rfl, below_draws (Below.refl _ _) _, ⟨ro, rfl, hro⟩, below_draws hB _⟩
          · simp at hq; subst hq
            obtain ⟨r9, g59, h9a⟩ := hI.has 9 59 rfl (hall ⟨9, .data⟩ (by simp) rfl)
            clear hI hall hnot hcl
            refine .inl ⟨wanted_none rfl, ?_⟩
            unfold Oper.wp
            go_simp
            first | exact ⟨_, rfl, Below.refl _ _, ⟨_, rfl, h9a⟩, hB⟩ | exact ⟨_, rfl, Below.refl _ _, ⟨_, rfl, h9a⟩⟩
          · simp at hq; subst hq
            obtain ⟨r9, g59, h9a⟩ := hI.has 9 59 rfl (hall ⟨9, .data⟩ (by simp) rfl)
            clear hI hall hnot hcl
            refine .inl ⟨wanted_none rfl, ?_⟩
            unfold Oper.wp
            go_simp
            all_goals first | exact ⟨_, rfl, Below.refl _ _, rfl, hB⟩ | exact ⟨Below.refl _ _, hB⟩ | exact Below.refl _ _
          · simp at hq; subst hq
            obtain ⟨r10, g60, h10a⟩ := hI.has 10 60 rfl (hall ⟨10, .data⟩ (by simp) rfl)
            clear hI hall hnot hcl
            refine .inl ⟨wanted_none rfl, ?_⟩
            unfold Oper.wp
            go_simp
            first | exact ⟨_, rfl, Below.refl _ _, ⟨_, rfl, h10a⟩⟩ | exact ⟨_, rfl, Below.refl _ _, ⟨_, rfl, h10a⟩, hB⟩
          · simp at hq; subst hq
            have g61 : act.tmps[61]?.getD undef = .bool (fin .f32 (toV a l d s n c hub tip wi sp p dn)) := hI.has 11 61 rfl (hall ⟨11, .data⟩ (by simp) rfl)
            clear hI hall hnot hcl
            refine .inl ⟨wanted_none rfl, ?_⟩
            unfold Oper.wp
            go_simp
            all_goals first | exact ⟨_, rfl, Below.refl _ _, rfl, hB⟩ | exact ⟨Below.refl _ _, hB⟩ | exact Below.refl _ _
          · simp at hq
        case hend =>
          intro listed act w3 hI hall
          have hB := hI.cls
          obtain ⟨m0, m1, m2, m3, m4, m5, m6⟩ := (KW.out.below hB).limbs
          obtain ⟨rq, g10, hrq⟩ := hI.has 12 10 rfl (hall 12 (by decide))
          have g11 : act.tmps[11]?.getD undef = .bool (fin .f32 (toV a l d s n c hub tip wi sp p dn)) := hI.has 13 11 rfl (hall 13 (by decide))
          have hd := hI.defers
          have HBE := Lib.hid hB
          have HRQ := Lib.hid hrq
          clear hI hall hB hrq m0 m1 m2 m3 m4 m5 m6
          go_wp2
          refine bodyPost_ret (v := .tuple #[.float .f32 rq, .bool (fin .f32 (toV a l d s n c hub tip wi sp p dn))]) (by simp [results, Tryz.results55, g10, g11, go_sem]) (by first | rfl | exact hd) ⟨rq, (by rw [(to_yes HO.out).1]), (HRQ.out.trans (by rw [(to_yes HO.out).2])), below_of BW.out BW.out.size HBE.out⟩
set_option maxHeartbeats 8000000 in
set_option maxRecDepth 100000 in
theorem s_BendingOf (A L D S : Option Addr) (ca cl cd n cs : Nat) (c : Int) (hub tip : Nat) (a l d s : List Nat) (wi sp p dn : Nat) (w : World) (h : Rt w A L D S a l d s) (hn : FewR a l d s n) :
    Calls Tryz.prog 25 #[.agg #[.slice A a.length ca, .slice L l.length cl, .slice D d.length cd, .slice S n cs, .int .i64 c, .float .f32 hub, .float .f32 tip], .float .f32 wi, .float .f32 sp, .float .f32 p, .float .f32 dn] w fun e w' => ∃ r, e = .returned (.tuple #[.float .f32 r, .bool (beO a l d s n c hub tip wi sp p dn)]) ∧ canon .f32 r = beR a l d s n c hub tip wi sp p dn ∧ Below w.heap.size w w' := by
  have HN := Lib.hid hn
  have HSL := Lib.hid hn.1
  have HP := Lib.hid h
  clear h hn
  obtain ⟨w0, hw0⟩ : ∃ q, q = w.alloc (.cells #[.slice A a.length ca, .slice L l.length cl, .slice D d.length cd, .slice S n cs, .int .i64 c, .float .f32 hub, .float .f32 tip] 35) := ⟨_, rfl⟩
  have B0 : Hid (Below w.heap.size w w0) := Lib.hid (by rw [hw0]; exact (Below.refl _ _).alloc (Nat.le_refl _) _)
  have K0 : Hid (Blk7 w0 w.heap.size A L D S a l d ca cl cd n cs c hub tip) := Lib.hid (by rw [hw0]; exact blk7_at w A L D S a l d ca cl cd n cs c hub tip _ rfl)
  go_enter Tryz.func25, Tryz.ntmps25
  go_upto_region 1 with fail
  rw [← hw0]
  clear hw0
  go_wp2_with fail
  refine (s_l03All A L D S ca cl cd n cs c hub tip a l d s w.heap.size wi sp p dn _ (HP.out.below B0.out) HN.out K0.out).mono ?_
  rintro e w1 ⟨R1, R2, c1, c2, g1, g2, rfl, ho, b1⟩
  have B1 : Hid (Below w0.heap.size w0 w1) := Lib.hid b1
  have B1w : Hid (Below w.heap.size w w1) := Lib.hid (below_of B0.out B0.out.size b1)
  clear b1
  cases hO : fcO a l d s n c hub tip wi sp p dn
  · have HNO := Lib.hid hO
    clear hO ho
    go_wp2
    go_ret2
    exact ⟨_, by rw [(be_no HNO.out).1]; rfl, by rw [(be_no HNO.out).2]; exact canon_zero, B1w.out⟩
  · skip
    have HO := Lib.hid hO
    obtain ⟨e1, e2, hn2, hn12⟩ := fc_facts hO
    have HL1 := Lib.hid e1
    have HL2 := Lib.hid e2
    have HAT : Hid (∀ k, k < n → canon .f32 ((fc1 a l d s n c hub tip wi sp p dn).getD k 0) = fcq1 a l d s n c hub tip wi sp p dn k ∧ canon .f32 ((fc2 a l d s n c hub tip wi sp p dn).getD k 0) = fcq2 a l d s n c hub tip wi sp p dn k) := Lib.hid (fun k hk => fc_at hO hk)
    rw [e1, e2]
    obtain ⟨eA, hlo, hown⟩ := ho.1.some' (ne_nil_of e1 hn2)
    subst eA
    have HLO := Lib.hid (B1.out.size)
    have HGE : Hid (w.heap.size ≤ g1) := Lib.hid (Nat.le_trans B0.out.size hlo)
    have HGEz : Hid (w0.heap.size ≤ g1) := Lib.hid hlo
    have HOW := Lib.hid hown
    have HPA : Hid (Part n (fcq1 a l d s n c hub tip wi sp p dn) (beQ a l d s n c hub tip wi sp p dn) 0 (fc1 a l d s n c hub tip wi sp p dn)) := Lib.hid (Part.start e1 (fun j hj => (HAT.out j hj).1))
    clear ho hlo hown hO e1 e2
    generalize fc1 a l d s n c hub tip wi sp p dn = f0 at HOW HPA ⊢
    go_wp2_with fail
    go_loopw [29] (fun i wr => ∃ (k : Nat) (zs : List Nat), k ≤ n ∧ i = .int .i64 k ∧ Hid (Own wr g1 zs) ∧ Hid (Part n (fcq1 a l d s n c hub tip wi sp p dn) (beQ a l d s n c hub tip wi sp p dn) k zs) ∧ Hid (Below w0.heap.size w0 wr)) (fun i _ => n - (intOf i).toNat)
    case atStart => exact ⟨0, f0, Nat.zero_le _, rfl, HOW, HPA, B1⟩
    case round =>
      obtain ⟨k, zs, hk, rfl, HZ, HPK, HBW⟩ := hrel
      by_cases hlt : k < n
      · obtain ⟨hcz, hfz⟩ := HZ.out.2 k (by rw [HPK.out.1]; exact hlt)
        have FW := HP.out.2.below ((below_of B0.out B0.out.size HBW.out))
        obtain ⟨b, off, rfl, -, hcs⟩ := FW.at_ (k := k * 3) (by rw [HSL.out]; omega)
        obtain ⟨k0, k1, k2, k3, k4, k5, k6⟩ := (K0.out.below HBW.out).limbs
        have HV : Hid (∀ wz W, canon .f32 (fopV .mul .f32 (zs.getD k 0) (fopV .sub .f32 (s.getD (k * 3) 0) hub wz) W) = beQ a l d s n c hub tip wi sp p dn k) := Lib.hid (fun wz W => by have e := HPK.out.at_ hlt; rw [canon_fopV, canon_fopV, e]; rfl)
        clear FW
        generalize zs.getD k 0 = z at hcz HV
        generalize s.getD (k * 3) 0 = x at hcs HV
        clear k0 k1 k2 k4 k6
        go_wp2_with fail
        go_region
        all_goals
          clear hcz hfz hcs k3 k5
          go_wp2
          go_roundw
          case rel => exact ⟨k + 1, zs.set k _, by omega, by go_num, Lib.hid ((show Own (World.drewN wr _) g1 zs from HZ.out).putH (by rw [HPK.out.1]; exact hlt)), Lib.hid (HPK.out.put hlt (HV.out _ _)), Lib.hid ((below_draws HBW.out _).setCell (p := ⟨g1, k, none⟩) HGEz.out _)⟩
          case measure => simp [intOf]; omega
      · have hkk : k = n := by omega
        have HPE : Hid (∀ j, j < n → canon .f32 (zs.getD j 0) = beQ a l d s n c hub tip wi sp p dn j) := Lib.hid (by have := HPK.out; rw [hkk] at this; exact this.end_)
        have HZF : Hid (Fl wr (some ⟨g1, 0, none⟩) zs) := Lib.hid HZ.out.fl
        have HZL : Hid (zs.length = n) := Lib.hid HPK.out.1
        have HQS : Hid (abS s (fun j => canon .f32 (zs.getD j 0)) (n - 1) = abS s (beQ a l d s n c hub tip wi sp p dn) (n - 1)) := Lib.hid (sum_of hn2 HPE.out)
        have KW : Hid (Blk7 wr w.heap.size A L D S a l d ca cl cd n cs c hub tip) := Lib.hid (K0.out.below HBW.out)
        have BW : Hid (Below w.heap.size w wr) := Lib.hid ((below_of B0.out B0.out.size HBW.out))
        clear HZ HPK HPE hk hkk
        obtain ⟨k0, k1, k2, k3, k4, k5, k6⟩ := KW.out.limbs
        go_wp2_with fail
        refine (s_l03Sum A L D S ca cl cd n cs c hub tip a l d s w.heap.size c1 (some ⟨g1, 0, none⟩) zs _ (HP.out.2.below BW.out) HSL.out HZF.out HZL.out hn2 hn12 KW.out).mono ?_
        rintro e w4 ⟨r, rfl, hr, m, rfl⟩
        have HR : Hid (canon .f32 r = beV a l d s n c hub tip wi sp p dn) := Lib.hid (hr.trans HQS.out)
        clear hr k0 k1 k2 k3 k4 k5 k6
        go_wp2_with fail
        refine (s_l03NumberC _ _ _ HR.out).mono ?_
        rintro e w5 ⟨r4, m4, rfl, hr4, rfl⟩
        have HR4 := Lib.hid hr4
        clear hr4
        go_wp2
        go_ret2
        exact ⟨r4, by rw [(be_yes HO.out).1]; rfl, HR4.out.trans (by rw [(be_yes HO.out).2]), by repeat (first | exact BW.out | refine below_draws ?_ _)⟩
set_option maxHeartbeats 8000000 in
set_option maxRecDepth 100000 in
theorem s_TorqueOf (A L D S : Option Addr) (ca cl cd n cs : Nat) (c : Int) (hub tip : Nat) (a l d s : List Nat) (wi sp p dn : Nat) (w : World) (h : Rt w A L D S a l d s) (hn : FewR a l d s n) :
    Calls Tryz.prog 23 #[.agg #[.slice A a.length ca, .slice L l.length cl, .slice D d.length cd, .slice S n cs, .int .i64 c, .float .f32 hub, .float .f32 tip], .float .f32 wi, .float .f32 sp, .float .f32 p, .float .f32 dn] w fun e w' => ∃ r, e = .returned (.tuple #[.float .f32 r, .bool (toO a l d s n c hub tip wi sp p dn)]) ∧ canon .f32 r = toR a l d s n c hub tip wi sp p dn ∧ Below w.heap.size w w' := by
  have HN := Lib.hid hn
  have HSL := Lib.hid hn.1
  have HP := Lib.hid h
  clear h hn
  obtain ⟨w0, hw0⟩ : ∃ q, q = w.alloc (.cells #[.slice A a.length ca, .slice L l.length cl, .slice D d.length cd, .slice S n cs, .int .i64 c, .float .f32 hub, .float .f32 tip] 35) := ⟨_, rfl⟩
  have B0 : Hid (Below w.heap.size w w0) := Lib.hid (by rw [hw0]; exact (Below.refl _ _).alloc (Nat.le_refl _) _)
  have K0 : Hid (Blk7 w0 w.heap.size A L D S a l d ca cl cd n cs c hub tip) := Lib.hid (by rw [hw0]; exact blk7_at w A L D S a l d ca cl cd n cs c hub tip _ rfl)
  go_enter Tryz.func23, Tryz.ntmps23
  go_upto_region 1 with fail
  rw [← hw0]
  clear hw0
  go_wp2_with fail
  refine (s_l03Torque A L D S ca cl cd n cs c hub tip a l d s w.heap.size wi sp p dn _ (HP.out.below B0.out) HN.out K0.out).mono ?_
  rintro e w1 ⟨r, rfl, hr, b1⟩
  have HR := Lib.hid hr
  have B1 : Hid (Below w.heap.size w w1) := Lib.hid (below_of B0.out B0.out.size b1)
  clear b1 hr
  go_wp2
  go_ret2
  exact ⟨r, rfl, HR.out, B1.out⟩
set_option maxHeartbeats 8000000 in
theorem s_l03Power (A L D S : Option Addr) (ca cl cd n cs : Nat) (c : Int) (hub tip : Nat) (a l d s : List Nat) (B wi sp p dn : Nat) (w : World) (h : Rt w A L D S a l d s) (hn : FewR a l d s n) (hk : Blk7 w B A L D S a l d ca cl cd n cs c hub tip) :
    Calls Tryz.prog 59 #[.pointer (some ⟨B, 0, none⟩), .float .f32 wi, .float .f32 sp, .float .f32 p, .float .f32 dn] w fun e w' => ∃ r, e = .returned (.tuple #[.float .f32 r, .bool (poO a l d s n c hub tip wi sp p dn)]) ∧ canon .f32 r = poR a l d s n c hub tip wi sp p dn ∧ Below w.heap.size w w' := by
  have HN := Lib.hid hn
  have HP := Lib.hid h
  have HK := Lib.hid hk
  clear h hn hk
  go_enter Tryz.func59, Tryz.ntmps59
  go_wp2_with fail
  refine (s_l03Torque A L D S ca cl cd n cs c hub tip a l d s B wi sp p dn _ HP.out HN.out HK.out).mono ?_
  rintro e w1 ⟨r, rfl, hr, b1⟩
  have HR := Lib.hid hr
  have B1 := Lib.hid b1
  clear b1 hr
  cases hO : toO a l d s n c hub tip wi sp p dn
  · have HNO := Lib.hid hO
    clear hO
    go_wp2
    go_ret2
    exact ⟨_, by rw [(po_no HNO.out).1]; rfl, by rw [(po_no HNO.out).2]; exact canon_zero, B1.out⟩
  · have HO := Lib.hid hO
    clear hO
    go_wp2_with fail
    refine (s_l03NumberC _ (poV a l d s n c hub tip wi sp p dn) _ (by unfold poV; exact canonF HR.out rfl)).mono ?_
    rintro e w4 ⟨r4, m4, rfl, hr4, rfl⟩
    have HR4 := Lib.hid hr4
    clear hr4
    go_wp2
    go_ret2
    exact ⟨r4, by rw [(po_yes HO.out).1]; rfl, HR4.out.trans (by rw [(po_yes HO.out).2]), by repeat (first | exact B1.out | refine below_draws ?_ _)⟩
set_option maxHeartbeats 8000000 in
set_option maxRecDepth 100000 in
theorem s_RotorPower (A L D S : Option Addr) (ca cl cd n cs : Nat) (c : Int) (hub tip : Nat) (a l d s : List Nat) (wi sp p dn : Nat) (w : World) (h : Rt w A L D S a l d s) (hn : FewR a l d s n) :
    Calls Tryz.prog 27 #[.agg #[.slice A a.length ca, .slice L l.length cl, .slice D d.length cd, .slice S n cs, .int .i64 c, .float .f32 hub, .float .f32 tip], .float .f32 wi, .float .f32 sp, .float .f32 p, .float .f32 dn] w fun e w' => ∃ r, e = .returned (.tuple #[.float .f32 r, .bool (poO a l d s n c hub tip wi sp p dn)]) ∧ canon .f32 r = poR a l d s n c hub tip wi sp p dn ∧ Below w.heap.size w w' := by
  have HN := Lib.hid hn
  have HSL := Lib.hid hn.1
  have HP := Lib.hid h
  clear h hn
  obtain ⟨w0, hw0⟩ : ∃ q, q = w.alloc (.cells #[.slice A a.length ca, .slice L l.length cl, .slice D d.length cd, .slice S n cs, .int .i64 c, .float .f32 hub, .float .f32 tip] 35) := ⟨_, rfl⟩
  have B0 : Hid (Below w.heap.size w w0) := Lib.hid (by rw [hw0]; exact (Below.refl _ _).alloc (Nat.le_refl _) _)
  have K0 : Hid (Blk7 w0 w.heap.size A L D S a l d ca cl cd n cs c hub tip) := Lib.hid (by rw [hw0]; exact blk7_at w A L D S a l d ca cl cd n cs c hub tip _ rfl)
  go_enter Tryz.func27, Tryz.ntmps27
  go_upto_region 1 with fail
  rw [← hw0]
  clear hw0
  go_wp2_with fail
  refine (s_l03Power A L D S ca cl cd n cs c hub tip a l d s w.heap.size wi sp p dn _ (HP.out.below B0.out) HN.out K0.out).mono ?_
  rintro e w1 ⟨r, rfl, hr, b1⟩
  have HR := Lib.hid hr
  have B1 : Hid (Below w.heap.size w w1) := Lib.hid (below_of B0.out B0.out.size b1)
  clear b1 hr
  go_wp2
  go_ret2
  exact ⟨r, rfl, HR.out, B1.out⟩
end Go.Proofs.YtahbcpjipomcgaaGreat
