/- A list of numbers, each told by its index. No statement is proved here. -/
import Derived.Test.YtigfonnlhiedhacVal
import Derived.Test.YtigfonnlhiedhacSums
import Derived.Test.YtigfonnlhiedhacInv
namespace Go.Proofs.Ytigfonnlhiedhac
open Go Go.RowKit
theorem canonS {op : BinOp} {k : FloatKind} {x y X Y : Nat} {w : World} (hx : canon k x = X) (hy : canon k y = Y) : canon k (fopV op k x y w) = fop op k X Y := by rw [canon_fopV, hx, hy]
theorem FlNew.below {w wr wr' : World} {B n k : Nat} {xs : List Nat} (h : FlNew w wr B n k xs) (hb : Below wr.heap.size wr wr') : FlNew w wr' B n k xs :=
  ⟨below_of h.1 h.1.size hb, h.2.1, Nat.lt_of_lt_of_le h.2.2.1 hb.size, fun j hj => ⟨by rw [hb.cell (p := ⟨B, j, none⟩) h.2.2.1]; exact (h.2.2.2 j hj).1, by rw [hb.frozen (p := ⟨B, j, none⟩) h.2.2.1]; exact (h.2.2.2 j hj).2⟩⟩
theorem FlNew.congr {w wr : World} {B n k : Nat} {xs ys : List Nat} (h : FlNew w wr B n k xs) (he : ∀ j, j < k → xs.getD j 0 = ys.getD j 0) : FlNew w wr B n k ys := by
  refine ⟨h.1, h.2.1, h.2.2.1, fun j hj => ⟨?_, (h.2.2.2 j hj).2⟩⟩
  rw [(h.2.2.2 j hj).1]
  by_cases hjk : j < k
  · rw [if_pos hjk, if_pos hjk, he j hjk]
  · rw [if_neg hjk, if_neg hjk]
theorem getD_lset {xs : List Nat} {k r j : Nat} (hk : k < xs.length) : (xs.set k r).getD j 0 = if k = j then r else xs.getD j 0 := by
  rw [List.getD_eq_getElem?_getD, List.getD_eq_getElem?_getD, List.getElem?_set]
  split
  · rename_i h; subst h; rfl
  · rfl
set_option maxHeartbeats 4000000 in
set_option maxRecDepth 100000 in
theorem i_listOf_glide (c1 : Value) (q : Nat → Nat) (n : Nat) (w : World) (hn : n ≤ 1048576)
    (hat : ∀ k, k < n → ∀ wr, Below w.heap.size w wr → Calls Try.prog 88 #[.int .i64 k, c1] wr fun e w' => ∃ r, e = .returned (.float .f32 r) ∧ canon .f32 r = q k ∧ Below wr.heap.size wr w') :
    Calls Try.prog 87 #[.int .i64 n, .func (.func 88) #[] #[c1]] w fun e w' => ∃ (A : Option Addr) (xs : List Nat), e = .returned (.slice A n n) ∧ xs.length = n ∧ Fl w' A xs ∧ (∀ k, k < n → canon .f32 (xs.getD k 0) = q k) ∧ Below w.heap.size w w' := by
  have hmk := make_f32 n w hn
  have HA := Lib.hid hat; clear hat
  go_enter Try.func87, Try.ntmps87
  go_wp2
  go_loopw [11] (fun i wr => ∃ (k : Nat) (ys : List Nat), k ≤ n ∧ i = .int .i64 k ∧ FlNew w wr w.heap.size n k ys ∧ ys.length = n ∧ Hid (∀ j, j < k → canon .f32 (ys.getD j 0) = q j)) (fun i _ => n - (intOf i).toNat)
  case atStart => exact ⟨0, List.replicate n 0, Nat.zero_le _, rfl, FlNew.start .., by simp, Lib.hid (fun j hj => absurd hj (Nat.not_lt_zero j))⟩
  case round =>
    obtain ⟨k, ys, hk, rfl, hnew, hlen, hq⟩ := hrel
    clear hmk
    by_cases hlt : k < n
    · have hcall := HA.out k hlt _ hnew.1
      have HN := Lib.hid hnew; clear hnew
      have hwr : IntKind.i64.wrap ((k : Int) + 1) = (k : Int) + 1 := IntWalk.i64_in _ (by omega)
      go_wp2_with fail
      refine hcall.mono ?_
      rintro e w1 ⟨r, rfl, hr, b1⟩
      have hn1 := HN.out.below b1
      obtain ⟨hc2, hc3⟩ := hn1.2.2.2 k hlt
      rw [if_neg (by omega)] at hc2
      have hst := (hn1.congr (ys := ys.set k r) (fun j hj => by rw [getD_lset (by omega), if_neg (by omega)])).step hlt
      rw [getD_lset (by omega), if_pos rfl] at hst
      have HS := Lib.hid hst
      have HQ : Hid (∀ j, j < k + 1 → canon .f32 ((ys.set k r).getD j 0) = q j) := Lib.hid (fun j hj => by
        rw [getD_lset (by omega)]
        by_cases e : k = j
        · rw [if_pos e, hr, e]
        · rw [if_neg e]; exact hq.out j (by omega))
      clear hst hn1 hr b1 hcall
      go_wp2
      go_roundw
      case rel => exact ⟨k + 1, ys.set k r, by omega, by go_num, HS.out, by simp [hlen], HQ⟩
      case measure => simp [intOf]; omega
    · have HN := Lib.hid hnew; clear hnew
      have hkk : k = n := by omega
      subst hkk
      go_wp2
      go_ret
      exact ⟨_, ys, rfl, hlen, by subst hlen; exact HN.out.done (Nat.le_refl _), hq.out, HN.out.1⟩
set_option maxHeartbeats 4000000 in
theorem i_glideAt (B j : Nat) (A L D : Option Addr) (ca cl cd : Nat) (a l d : List Nat) (w : World) (h : Pf w A L D a l d) (hk : Blk3 w B (.slice A a.length ca) (.slice L l.length cl) (.slice D d.length cd)) (hl : j < l.length) (hd : j < d.length) :
    Calls Try.prog 88 #[.int .i64 j, .pointer (some ⟨B, 0, none⟩)] w fun e w' => ∃ r, e = .returned (.float .f32 r) ∧ canon .f32 r = fop .quo .f32 (canon .f32 (l.getD j 0)) (canon .f32 (d.getD j 0)) ∧ ∃ n, w' = w.drewN n := by
  obtain ⟨bl, ol, rfl, hbl, hcl⟩ := h.2.1.at_ hl
  obtain ⟨bd, od, rfl, hbd, hcd⟩ := h.2.2.at_ hd
  clear h hbl hbd
  obtain ⟨x, hx⟩ : ∃ x, x = l.getD j 0 := ⟨_, rfl⟩
  obtain ⟨y, hy⟩ : ∃ x, x = d.getD j 0 := ⟨_, rfl⟩
  rw [← hx] at hcl ⊢
  rw [← hy] at hcd ⊢
  clear hx hy
  obtain ⟨-, ⟨k0, k1, k2⟩, -, -, -⟩ := hk
  go_enter Try.func88, Try.ntmps88
  go_wp2_with fail
  refine wp_region_inv (fun q0 v => match q0 with
    | 0 => v = .pointer (some ⟨B, 1, none⟩)
    | 1 => v = .slice (some ⟨bl, ol, none⟩) l.length cl
    | 2 => v = .int .i64 j
    | 3 => v = .pointer (some ⟨bl, ol + j, none⟩)
    | 4 => v = .float .f32 x
    | 5 => v = .pointer (some ⟨B, 2, none⟩)
    | 6 => v = .slice (some ⟨bd, od, none⟩) d.length cd
    | 7 => v = .int .i64 j
    | 8 => v = .pointer (some ⟨bd, od + j, none⟩)
    | 9 => v = .float .f32 y
    | 10 => ∃ r, v = .float .f32 r ∧ canon .f32 r = fop .quo .f32 (canon .f32 x) (canon .f32 y)
    | 11 => ∃ r, v = .float .f32 r ∧ canon .f32 r = fop .quo .f32 (canon .f32 x) (canon .f32 y)
    | _ => False) (fun _ ww => ∃ nn, ww = w.drewN nn) (by kernel_rfl) (by kernel_rfl) ⟨1, rfl⟩ ?hop ?hend
  case hop =>
    intro q o hq listed act w3 hI hall
    obtain ⟨nn, rfl⟩ := hI.cls
    rcases q with _ | _ | _ | _ | _ | _ | _ | _ | _ | _ | _ | _ | q
    · simp at hq; subst hq
      have g1 : act.tmps[1]?.getD undef = .pointer (some ⟨B, 0, none⟩) := hI.kept 1 (by kernel_rfl)
      clear hI hall
      unfold Oper.wp
      go_simp
      exact ⟨_, rfl, rfl, ⟨_, rfl⟩⟩
    · simp at hq; subst hq
      have g4 : act.tmps[4]?.getD undef = .pointer (some ⟨B, 1, none⟩) := hI.has 0 4 rfl (hall ⟨0, .data⟩ (by simp) rfl)
      clear hI hall
      unfold Oper.wp
      go_simp
      exact ⟨_, rfl, rfl, ⟨_, rfl⟩⟩
    · simp at hq; subst hq
      have g0 : act.tmps[0]?.getD undef = .int .i64 j := hI.kept 0 (by kernel_rfl)
      clear hI hall
      unfold Oper.wp
      go_simp
      exact ⟨_, rfl, rfl, ⟨_, rfl⟩⟩
    · simp at hq; subst hq
      have g5 : act.tmps[5]?.getD undef = .slice (some ⟨bl, ol, none⟩) l.length cl := hI.has 1 5 rfl (hall ⟨1, .data⟩ (by simp) rfl)
      have g6 : act.tmps[6]?.getD undef = .int .i64 j := hI.has 2 6 rfl (hall ⟨2, .data⟩ (by simp) rfl)
      clear hI hall
      unfold Oper.wp
      go_simp
      exact ⟨_, rfl, rfl, ⟨_, rfl⟩⟩
    · simp at hq; subst hq
      have g7 : act.tmps[7]?.getD undef = .pointer (some ⟨bl, ol + j, none⟩) := hI.has 3 7 rfl (hall ⟨3, .data⟩ (by simp) rfl)
      clear hI hall
      unfold Oper.wp
      go_simp
      exact ⟨_, rfl, rfl, ⟨_, rfl⟩⟩
    · simp at hq; subst hq
      have g1 : act.tmps[1]?.getD undef = .pointer (some ⟨B, 0, none⟩) := hI.kept 1 (by kernel_rfl)
      clear hI hall
      unfold Oper.wp
      go_simp
      exact ⟨_, rfl, rfl, ⟨_, rfl⟩⟩
    · simp at hq; subst hq
      have g9 : act.tmps[9]?.getD undef = .pointer (some ⟨B, 2, none⟩) := hI.has 5 9 rfl (hall ⟨5, .data⟩ (by simp) rfl)
      clear hI hall
      unfold Oper.wp
      go_simp
      exact ⟨_, rfl, rfl, ⟨_, rfl⟩⟩
    · simp at hq; subst hq
      have g0 : act.tmps[0]?.getD undef = .int .i64 j := hI.kept 0 (by kernel_rfl)
      clear hI hall
      unfold Oper.wp
      go_simp
      exact ⟨_, rfl, rfl, ⟨_, rfl⟩⟩
    · simp at hq; subst hq
      have g10 : act.tmps[10]?.getD undef = .slice (some ⟨bd, od, none⟩) d.length cd := hI.has 6 10 rfl (hall ⟨6, .data⟩ (by simp) rfl)
      have g11 : act.tmps[11]?.getD undef = .int .i64 j := hI.has 7 11 rfl (hall ⟨7, .data⟩ (by simp) rfl)
      clear hI hall
      unfold Oper.wp
      go_simp
      exact ⟨_, rfl, rfl, ⟨_, rfl⟩⟩
    · simp at hq; subst hq
      have g12 : act.tmps[12]?.getD undef = .pointer (some ⟨bd, od + j, none⟩) := hI.has 8 12 rfl (hall ⟨8, .data⟩ (by simp) rfl)
      clear hI hall
      unfold Oper.wp
      go_simp
      exact ⟨_, rfl, rfl, ⟨_, rfl⟩⟩
    · simp at hq; subst hq
      have g8 : act.tmps[8]?.getD undef = .float .f32 x := hI.has 4 8 rfl (hall ⟨4, .data⟩ (by simp) rfl)
      have g13 : act.tmps[13]?.getD undef = .float .f32 y := hI.has 9 13 rfl (hall ⟨9, .data⟩ (by simp) rfl)
      clear hI hall
      unfold Oper.wp
      go_simp
      exact ⟨_, rfl, ⟨_, rfl, canonS rfl rfl⟩, by first | exact ⟨_, rfl⟩ | exact ⟨_, World.drewN_drewN ..⟩⟩
    · simp at hq; subst hq
      obtain ⟨r10, g14, h10a⟩ := hI.has 10 14 rfl (hall ⟨10, .data⟩ (by simp) rfl)
      clear hI hall
      unfold Oper.wp
      go_simp
      exact ⟨_, rfl, ⟨_, rfl, h10a⟩, ⟨_, rfl⟩⟩
    · simp at hq
  case hend =>
    intro listed act w3 hI hall
    obtain ⟨nn, rfl⟩ := hI.cls
    obtain ⟨rq, g3, hrq⟩ := hI.has 11 3 rfl (hall 11 (by decide))
    have hd := hI.defers
    clear hI hall
    go_wp2
    refine bodyPost_ret (v := .float .f32 rq) (by simp [results, Try.results88, g3, go_sem]) (by first | rfl | exact hd) ⟨rq, rfl, hrq, _, rfl⟩
end Go.Proofs.Ytigfonnlhiedhac
