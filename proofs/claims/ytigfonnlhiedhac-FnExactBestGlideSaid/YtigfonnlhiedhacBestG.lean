/- BestGlide: both sides. No statement is proved here. -/
import Derived.Test.YtigfonnlhiedhacList
import Derived.Test.YtigfonnlhiedhacGreat
import Derived.StillTailTactics
namespace Go.Proofs.Ytigfonnlhiedhac
open Go Go.RowKit
def quoL (l d : List Nat) (n : Nat) : List Nat := (List.range n).map fun j => fop .quo .f32 (canon .f32 (l.getD j 0)) (canon .f32 (d.getD j 0))
theorem quoL_at {l d : List Nat} {n j : Nat} (h : j < n) : (quoL l d n).getD j 0 = fop .quo .f32 (canon .f32 (l.getD j 0)) (canon .f32 (d.getD j 0)) := by
  unfold quoL
  rw [List.getD_eq_getElem?_getD, List.getElem?_map, List.getElem?_range h]; rfl
theorem fg_congr {xs ys : List Nat} {n : Nat} (h : ∀ j, j < n → canon .f32 (xs.getD j 0) = canon .f32 (ys.getD j 0)) : ∀ k, k ≤ n → fg xs k = fg ys k := by
  intro k; induction k with
  | zero => intro _; rfl
  | succ k ih =>
    intro hk
    have i1 := ih (by omega)
    show fgStep xs k (fg xs k) = fgStep ys k (fg ys k)
    have e1 : isn .f32 (xs.getD k 0) = isn .f32 (ys.getD k 0) := by rw [← isn_canon, h k (by omega), isn_canon]
    rw [i1]
    unfold fgStep
    rw [e1]
    cases hc : fg ys k with
    | none => rfl
    | some b =>
      have hb := fg_lt ys k b hc
      have e2 : gtr32 (xs.getD k 0) (xs.getD b 0) = gtr32 (ys.getD k 0) (ys.getD b 0) := by unfold gtr32; rw [← order_canon .f32 (xs.getD k 0), h k (by omega), h b (by omega), order_canon]
      simp only [e2]
theorem oM_congr {xs ys : List Nat} {n : Nat} (h : ∀ j, j < n → canon .f32 (xs.getD j 0) = canon .f32 (ys.getD j 0)) (o : Option Nat) (ho : ∀ b, o = some b → b < n) : canon .f32 (oM xs o) = canon .f32 (oM ys o) := by
  cases o with
  | none => rfl
  | some b => exact h b (ho b rfl)
def bgO (a l d : List Nat) : Bool := validP a l d && (oF (fg (quoL l d l.length) l.length) && fin .f32 (oM (quoL l d l.length) (fg (quoL l d l.length) l.length)))
def bgI (a l d : List Nat) : Int := if bgO a l d then oI (fg (quoL l d l.length) l.length) else 0
def bgR (a l d : List Nat) : Nat := if bgO a l d then canon .f32 (oM (quoL l d l.length) (fg (quoL l d l.length) l.length)) else 0
theorem bg_no {a l d : List Nat} (h : bgO a l d = false) : bgI a l d = 0 ∧ bgR a l d = 0 := ⟨by unfold bgI; rw [h]; rfl, by unfold bgR; rw [h]; rfl⟩
def sI : Option Nat → Int
  | none => -1
  | some b => (b : Int)
theorem i_firstGreatestN (A : Option Addr) (n : Nat) (xs : List Nat) (o : Option Nat) (w : World) (h : Fl w A xs) (hl : xs.length = n) (hn : n ≤ 1048576) (ho : fg xs n = o) :
    Calls Try.prog 86 #[.slice A n n] w fun e w' => ∃ m, e = .returned (.tuple #[.int .i64 (oI o), .float .f32 (oM xs o), .bool (oF o)]) ∧ w' = w.drewN m := by
  subst hl ho
  exact i_firstGreatest A xs.length xs w h hn
set_option maxHeartbeats 4000000 in
set_option maxRecDepth 100000 in
theorem i_BestGlide (A L D : Option Addr) (ca cl cd : Nat) (a l d : List Nat) (w : World) (h : Pf w A L D a l d) (hn : Few a l d) :
    Calls Try.prog 34 #[.agg #[.slice A a.length ca, .slice L l.length cl, .slice D d.length cd]] w fun e w' => ∃ r, e = .returned (.tuple #[.int .i64 (bgI a l d), .float .f32 r, .bool (bgO a l d)]) ∧ canon .f32 r = bgR a l d ∧ Below w.heap.size w w' := by
  have HP := Lib.hid h; clear h
  have HN := Lib.hid hn; clear hn
  have HB : ∀ o1, Hid (Below w.heap.size w (w.alloc o1)) := fun _ => Lib.hid ((Below.refl _ _).alloc (Nat.le_refl _) _)
  cases hv : validP a l d
  · have HO : Hid (bgO a l d = false) := Lib.hid (by unfold bgO; rw [hv]; rfl)
    have HV := Lib.hid hv
    go_enter Try.func34, Try.ntmps34
    go_wp2_with fail
    refine (i_ValidProfile A L D ca cl cd a l d _ (HP.out.below (HB _).out) HN.out).mono ?_
    rintro e w1 ⟨rfl, b1⟩
    have B1 : Hid (Below w.heap.size w w1) := Lib.hid (below_of (HB _).out (by simp) b1)
    clear b1
    rw [show validP a l d = _ from HV.out]
    go_wp2
    refine bodyPost_ret (results_tmp3 rfl _ _ _) rfl ?_
    exact ⟨_, by rw [(bg_no HO.out).1, HO.out]; rfl, by rw [(bg_no HO.out).2]; exact canon_zero, B1.out⟩
  · have HV := Lib.hid hv
    obtain ⟨s1, s2, s3, s4⟩ := sized_of hv
    have e2 : l.length ≤ 1048576 := by omega
    have HLD : Hid (l.length ≤ d.length) := Lib.hid (by omega)
    have HOV : Hid (bgO a l d = (oF (fg (quoL l d l.length) l.length) && fin .f32 (oM (quoL l d l.length) (fg (quoL l d l.length) l.length)))) := Lib.hid (by unfold bgO; rw [hv]; rfl)
    clear hv s3 s4
    go_enter Try.func34, Try.ntmps34
    go_wp2_with fail
    refine (i_ValidProfile A L D ca cl cd a l d _ (HP.out.below (HB _).out) HN.out).mono ?_
    rintro e w1 ⟨rfl, b1⟩
    have B1 : Hid (Below w.heap.size w w1) := Lib.hid (below_of (HB _).out (by simp) b1)
    have K1 : Hid (Blk3 w1 w.heap.size (.slice A a.length ca) (.slice L l.length cl) (.slice D d.length cd)) := Lib.hid (Blk3.below (blk3_new w _ _ _ _) b1)
    clear b1
    rw [show validP a l d = _ from HV.out]
    obtain ⟨-, ⟨k0, k1, k2⟩, -, -, -⟩ := K1.out
    go_wp2_with fail
    refine (i_listOf_glide (.pointer (some ⟨w.heap.size, 0, none⟩)) (fun j => (quoL l d l.length).getD j 0) l.length w1 e2 (fun k hk wr hb => (i_glideAt w.heap.size k A L D ca cl cd a l d wr (HP.out.below (below_of B1.out B1.out.size hb)) (K1.out.below hb) hk (Nat.lt_of_lt_of_le hk HLD.out)).mono (fun e w' ⟨r, he, hr, nn, hw⟩ => ⟨r, he, by rw [hr, quoL_at hk], by rw [hw]; exact below_draws (Below.refl _ _) _⟩))).mono ?_
    rintro e w2 ⟨A', xs, rfl, hlen, hF, hq, b2⟩
    have B2 : Hid (Below w.heap.size w w2) := Lib.hid (below_of B1.out B1.out.size b2)
    have HQ : Hid (∀ j, j < l.length → canon .f32 (xs.getD j 0) = canon .f32 ((quoL l d l.length).getD j 0)) := Lib.hid (fun j hj => by rw [hq j hj, quoL_at hj, canon_fop])
    have HF := Lib.hid hF
    clear b2 hF hq k0 k1 k2
    cases ho : fg (quoL l d l.length) l.length with
    | none =>
      have HO : Hid (bgO a l d = false) := Lib.hid (by rw [HOV.out, ho]; rfl)
      have HFG : Hid (fg xs l.length = none) := Lib.hid ((fg_congr HQ.out _ (Nat.le_refl _)).trans ho)
      clear ho
      go_wp2_with fail
      refine (i_firstGreatestN A' l.length xs none _ HF.out hlen e2 HFG.out).mono ?_
      rintro e w' ⟨m, rfl, rfl⟩
      simp only [oI, oF]
      go_wp2
      refine bodyPost_ret (results_tmp3 rfl _ _ _) rfl ?_
      exact ⟨_, by rw [(bg_no HO.out).1, HO.out]; rfl, by rw [(bg_no HO.out).2]; exact canon_zero, below_draws B2.out _⟩
    | some b =>
      have HFG : Hid (fg xs l.length = some b) := Lib.hid ((fg_congr HQ.out _ (Nat.le_refl _)).trans ho)
      have HM : Hid (canon .f32 (oM xs (some b)) = canon .f32 (oM (quoL l d l.length) (some b))) := Lib.hid (HQ.out b (fg_lt _ _ _ ho))
      have HOV2 : Hid (bgO a l d = fin .f32 (oM xs (some b))) := Lib.hid (by rw [HOV.out, ho, ← fin_canon .f32 (oM xs (some b)), HM.out, fin_canon]; rfl)
      have HO2 := Lib.hid ho
      clear ho
      obtain ⟨mm, hmm⟩ : ∃ m, m = oM xs (some b) := ⟨_, rfl⟩
      rw [← hmm] at HM HOV2
      have HMM := Lib.hid hmm; clear hmm
      cases hf : fin .f32 mm
      all_goals
        have HO : Hid (bgO a l d = _) := Lib.hid (HOV2.out.trans hf)
        have HFI := Lib.hid hf; clear hf
        go_wp2_with fail
        refine (i_firstGreatestN A' l.length xs (some b) _ HF.out hlen e2 HFG.out).mono ?_
        rintro e w' ⟨m, rfl, rfl⟩
        rw [← HMM.out]
        simp only [oI, oF]
        go_wp2_with fail
        refine (i_IsFinite _ _).mono ?_
        rintro e w' ⟨m2, rfl, rfl⟩
        rw [HFI.out]
        go_wp2
        refine bodyPost_ret (results_tmp3 rfl _ _ _) rfl ?_
      · exact ⟨_, by rw [(bg_no HO.out).1, HO.out]; rfl, by rw [(bg_no HO.out).2]; exact canon_zero, by first | exact below_draws B2.out _ | exact below_draws (below_draws B2.out _) _⟩
      · exact ⟨_, by unfold bgI; rw [HO.out, HO2.out]; rfl, by unfold bgR; rw [HO.out, HO2.out]; exact HM.out, by first | exact below_draws B2.out _ | exact below_draws (below_draws B2.out _) _⟩
set_option maxHeartbeats 4000000 in
set_option maxRecDepth 100000 in
theorem s_BestGlide (A L D : Option Addr) (ca cl cd : Nat) (a l d : List Nat) (w : World) (h : Pf w A L D a l d) (hn : Few a l d) :
    Calls Try.prog 33 #[.agg #[.slice A a.length ca, .slice L l.length cl, .slice D d.length cd]] w fun e w' => ∃ r, e = .returned (.tuple #[.int .i64 (bgI a l d), .float .f32 r, .bool (bgO a l d)]) ∧ canon .f32 r = bgR a l d ∧ Below w.heap.size w w' := by
  have HP := Lib.hid h; clear h
  have HN := Lib.hid hn; clear hn
  have HB : ∀ o1, Hid (Below w.heap.size w (w.alloc o1)) := fun _ => Lib.hid ((Below.refl _ _).alloc (Nat.le_refl _) _)
  cases hv : validP a l d
  · have HO : Hid (bgO a l d = false) := Lib.hid (by unfold bgO; rw [hv]; rfl)
    have HV := Lib.hid hv
    go_enter Try.func33, Try.ntmps33
    go_wp2_with fail
    refine (s_l02Is A L D ca cl cd a l d _ _ (HP.out.below (HB _).out) (blk3_new w _ _ _ _) HN.out).mono ?_
    rintro e w1 ⟨n, rfl, rfl⟩
    rw [show validP a l d = _ from HV.out]
    go_wp2
    refine bodyPost_ret (results_tmp3 rfl _ _ _) rfl ?_
    exact ⟨_, by rw [(bg_no HO.out).1, HO.out]; rfl, by rw [(bg_no HO.out).2]; exact canon_zero, below_draws (HB _).out _⟩
  · have HV := Lib.hid hv
    obtain ⟨s1, s2, s3, s4⟩ := sized_of hv
    have HOV : Hid (bgO a l d = (oF (fg (quoL l d l.length) l.length) && fin .f32 (oM (quoL l d l.length) (fg (quoL l d l.length) l.length)))) := Lib.hid (by unfold bgO; rw [hv]; rfl)
    clear hv
    have e1 : a.length ≤ l.length := by omega
    have e2 : l.length ≤ a.length := by omega
    have e3 : l.length ≤ d.length := by omega
    clear s3 s4
    go_enter Try.func33, Try.ntmps33
    go_wp2_with fail
    refine (s_l02Is A L D ca cl cd a l d _ _ (HP.out.below (HB _).out) (blk3_new w _ _ _ _) HN.out).mono ?_
    rintro e w1 ⟨n0, rfl, rfl⟩
    rw [show validP a l d = _ from HV.out]
    obtain ⟨w1, hw1⟩ : ∃ w1, w1 = w.alloc (.cells #[.slice A a.length ca, .slice L l.length cl, .slice D d.length cd] 26) := ⟨_, rfl⟩
    have K1 : Hid (Blk3 w1 w.heap.size (.slice A a.length ca) (.slice L l.length cl) (.slice D d.length cd)) := Lib.hid (by rw [hw1]; exact blk3_new w _ _ _ _)
    have B1 : Hid (Below w.heap.size w w1) := Lib.hid (by rw [hw1]; exact (HB _).out)
    rw [← hw1]
    clear hw1
    obtain ⟨-, ⟨k0, k1, k2⟩, -, -, -⟩ := K1.out
    have PL := Lib.hid (HP.out.2.1.below B1.out)
    have PD := Lib.hid (HP.out.2.2.below B1.out)
    go_wp2_with fail
    go_loopw [5, 6, 7] (fun b m i wr => ∃ (k mm : Nat) (o : Option Nat), k ≤ l.length ∧ i = .int .i64 k ∧ b = .int .i64 (sI o) ∧ m = .float .f32 mm ∧ Hid (fg (quoL l d l.length) k = o) ∧ Hid (canon .f32 mm = canon .f32 (oM (quoL l d l.length) o)) ∧ Hid (∃ n, wr = w1.drewN n)) (fun _ _ i _ => l.length - (intOf i).toNat)
    case atStart => exact ⟨0, 0, none, Nat.zero_le _, rfl, rfl, rfl, rfl, rfl, Lib.hid ⟨_, rfl⟩⟩
    case round =>
      obtain ⟨k, mm, o, hk, rfl, rfl, rfl, ho, hm, hW⟩ := hrel
      have k0' : wr.cell? ⟨w.heap.size, 0, none⟩ = some (.slice A a.length ca) := by obtain ⟨n, hn⟩ := hW.out; rw [hn]; exact k0
      have k1' : wr.cell? ⟨w.heap.size, 1, none⟩ = some (.slice L l.length cl) := by obtain ⟨n, hn⟩ := hW.out; rw [hn]; exact k1
      have k2' : wr.cell? ⟨w.heap.size, 2, none⟩ = some (.slice D d.length cd) := by obtain ⟨n, hn⟩ := hW.out; rw [hn]; exact k2
      have BW : Hid (Below w.heap.size w wr) := Lib.hid (by obtain ⟨n, hn⟩ := hW.out; rw [hn]; exact below_draws B1.out _)
      have HW : Hid (∀ j, ∃ n', wr.drewN j = w1.drewN n') := Lib.hid (fun j => by obtain ⟨n, hn⟩ := hW.out; rw [hn]; exact ⟨_, World.drewN_drewN ..⟩)
      have HW1 : Hid (∀ j, ∃ n', wr.drew.drewN j = w1.drewN n') := Lib.hid (fun j => by obtain ⟨n, hn⟩ := hW.out; rw [hn]; exact ⟨_, (World.drewN_drewN (w1.drewN n) 1 j).trans (World.drewN_drewN ..)⟩)
      have HW0 : Hid (∃ n', wr.drew = w1.drewN n') := Lib.hid (HW.out 1)
      clear k0 k1 k2 hW
      by_cases hlt : k < l.length
      · obtain ⟨bl, ol, rfl, hbl, hl⟩ := PL.out.at_ hlt
        obtain ⟨bd, od, rfl, hbd, hd⟩ := PD.out.at_ (show k < d.length by omega)
        clear hbl hbd
        have hl : wr.cell? ⟨bl, ol + k, none⟩ = some (.float .f32 (l.getD k 0)) := by obtain ⟨n, hn⟩ := HW.out 0; rw [show wr = w1.drewN n from hn]; exact hl
        have hd : wr.cell? ⟨bd, od + k, none⟩ = some (.float .f32 (d.getD k 0)) := by obtain ⟨n, hn⟩ := HW.out 0; rw [show wr = w1.drewN n from hn]; exact hd
        have hq := quoL_at (l := l) (d := d) hlt
        have hlt1 : k < a.length := by omega
        have hlt2 : k < d.length := by omega
        obtain ⟨x, hx⟩ : ∃ x, x = l.getD k 0 := ⟨_, rfl⟩
        obtain ⟨y, hy⟩ : ∃ y, y = d.getD k 0 := ⟨_, rfl⟩
        rw [← hx] at hl hq
        rw [← hy] at hd hq
        have HC : ∀ W, canon .f32 (fopV .quo .f32 x y W) = (quoL l d l.length).getD k 0 := fun W => by rw [hq]; exact canonS rfl rfl
        have HCC : canon .f32 ((quoL l d l.length).getD k 0) = (quoL l d l.length).getD k 0 := by rw [hq, canon_fop]
        have HI : ∀ W, isn .f32 (fopV .quo .f32 x y W) = isn .f32 ((quoL l d l.length).getD k 0) := fun W => by rw [← isn_canon, HC]
        have HS : fg (quoL l d l.length) (k + 1) = fgStep (quoL l d l.length) k o := by show fgStep (quoL l d l.length) k (fg (quoL l d l.length) k) = _; rw [ho.out]
        clear hx hy hq
        have hwr : IntKind.i64.wrap ((k : Int) + 1) = (k : Int) + 1 := IntWalk.i64_in _ (by omega)
        cases hi : isn .f32 ((quoL l d l.length).getD k 0)
        · have hE : ∀ W, (FloatKind.f32.format.order (fopV .quo .f32 x y W) (fopV .quo .f32 x y W) == some .eq) = true := fun W => by rw [order_self, HI, hi]; rfl
          cases o with
          | none =>
            have HO : Hid (fg (quoL l d l.length) (k + 1) = some k) := Lib.hid (by rw [HS]; unfold fgStep; rw [hi]; rfl)
            have HCH := Lib.hid HC
            have HCCH := Lib.hid HCC
            clear HC HCC HI HS hi
            simp only [sI]
            go_wp2_with fail
            refine wp_region_still_tail 10 (by kernel_rfl) (by kernel_rfl) ?_
            simp only [List.take_succ_cons, List.take_zero, List.drop_succ_cons, List.drop_zero]
            repeat (refine wpStill_step (fun K hK => ?_); go_simp; first | (refine hK _ ?_; clear hK K) | (refine ⟨rfl, hK _ ?_⟩; clear hK K))
            try refine wpStill_nil ?_
            change wpList _ _ _ _ _ wr.drew
            go_wp2
            go_roundw
            case rel => exact ⟨k + 1, _, some k, by omega, by go_num, rfl, rfl, HO, Lib.hid (by rw [HCH.out]; exact HCCH.out.symm), Lib.hid (by first | exact HW1.out _ | exact HW.out _ | exact HW0.out)⟩
            case measure => simp [intOf]; omega
          | some c =>
            have HG : ∀ W, (FloatKind.f32.format.order (fopV .quo .f32 x y W) mm == some .gt) = gtr32 ((quoL l d l.length).getD k 0) ((quoL l d l.length).getD c 0) := fun W => by unfold gtr32; rw [← order_canon .f32 _ mm, HC, hm.out, ← order_canon .f32 ((quoL l d l.length).getD k 0) ((quoL l d l.length).getD c 0), HCC]; rfl
            cases hg : gtr32 ((quoL l d l.length).getD k 0) ((quoL l d l.length).getD c 0)
            · have HO : Hid (fg (quoL l d l.length) (k + 1) = some c) := Lib.hid (by rw [HS]; unfold fgStep; rw [hi]; simp only [Bool.false_eq_true, if_false]; rw [hg]; rfl)
              have hG : ∀ W, (FloatKind.f32.format.order (fopV .quo .f32 x y W) mm == some .gt) = false := fun W => (HG W).trans hg
              clear HC HCC HI HS hi HG hg
              simp only [sI]
              go_wp2_with fail
              refine wp_region_still_tail 10 (by kernel_rfl) (by kernel_rfl) ?_
              simp only [List.take_succ_cons, List.take_zero, List.drop_succ_cons, List.drop_zero]
              repeat (refine wpStill_step (fun K hK => ?_); go_simp; first | (refine hK _ ?_; clear hK K) | (refine ⟨rfl, hK _ ?_⟩; clear hK K))
              try refine wpStill_nil ?_
              change wpList _ _ _ _ _ wr.drew
              go_wp2
              go_roundw
              case rel => exact ⟨k + 1, mm, some c, by omega, by go_num, rfl, rfl, HO, hm, Lib.hid (by first | exact HW1.out _ | exact HW.out _ | exact HW0.out)⟩
              case measure => simp [intOf]; omega
            · have HO : Hid (fg (quoL l d l.length) (k + 1) = some k) := Lib.hid (by rw [HS]; unfold fgStep; rw [hi]; simp only [Bool.false_eq_true, if_false]; rw [hg]; rfl)
              have hG : ∀ W, (FloatKind.f32.format.order (fopV .quo .f32 x y W) mm == some .gt) = true := fun W => (HG W).trans hg
              have HCH := Lib.hid HC
              have HCCH := Lib.hid HCC
              clear HC HCC HI HS hi HG hg
              simp only [sI]
              go_wp2_with fail
              refine wp_region_still_tail 10 (by kernel_rfl) (by kernel_rfl) ?_
              simp only [List.take_succ_cons, List.take_zero, List.drop_succ_cons, List.drop_zero]
              repeat (refine wpStill_step (fun K hK => ?_); go_simp; first | (refine hK _ ?_; clear hK K) | (refine ⟨rfl, hK _ ?_⟩; clear hK K))
              try refine wpStill_nil ?_
              change wpList _ _ _ _ _ wr.drew
              go_wp2
              go_roundw
              case rel => exact ⟨k + 1, _, some k, by omega, by go_num, rfl, rfl, HO, Lib.hid (by rw [HCH.out]; exact HCCH.out.symm), Lib.hid (by first | exact HW1.out _ | exact HW.out _ | exact HW0.out)⟩
              case measure => simp [intOf]; omega
        · have hE : ∀ W, (FloatKind.f32.format.order (fopV .quo .f32 x y W) (fopV .quo .f32 x y W) == some .eq) = false := fun W => by rw [order_self, HI, hi]; rfl
          have HO : Hid (fg (quoL l d l.length) (k + 1) = o) := Lib.hid (by rw [HS]; unfold fgStep; rw [hi]; rfl)
          clear HC HCC HI HS hi
          go_wp2_with fail
          refine wp_region_still_tail 10 (by kernel_rfl) (by kernel_rfl) ?_
          simp only [List.take_succ_cons, List.take_zero, List.drop_succ_cons, List.drop_zero]
          repeat (refine wpStill_step (fun K hK => ?_); go_simp; first | (refine hK _ ?_; clear hK K) | (refine ⟨rfl, hK _ ?_⟩; clear hK K))
          try refine wpStill_nil ?_
          change wpList _ _ _ _ _ wr.drew
          go_wp2
          go_roundw
          case rel => exact ⟨k + 1, mm, o, by omega, by go_num, rfl, rfl, HO, hm, Lib.hid (by first | exact HW1.out _ | exact HW.out _ | exact HW0.out)⟩
          case measure => simp [intOf]; omega
      · have hkk : k = l.length := by omega
        subst hkk
        have hna : ¬ (l.length < a.length) := by omega
        cases o with
        | none =>
          have HO : Hid (bgO a l d = false) := Lib.hid (by rw [HOV.out, ho.out]; rfl)
          simp only [sI]
          go_wp2
          refine bodyPost_ret (results_tmp3 rfl _ _ _) rfl ?_
          exact ⟨_, by rw [(bg_no HO.out).1, HO.out]; rfl, by rw [(bg_no HO.out).2]; exact canon_zero, by first | exact BW.out | exact below_draws BW.out _⟩
        | some b =>
          have HOV2 : Hid (bgO a l d = fin .f32 mm) := Lib.hid (by rw [HOV.out, ho.out, ← fin_canon .f32 mm, hm.out, fin_canon]; rfl)
          simp only [sI]
          cases hf : fin .f32 mm
          all_goals
            have HO : Hid (bgO a l d = _) := Lib.hid (HOV2.out.trans hf)
            have HFI := Lib.hid hf; clear hf
            go_wp2_with fail
            refine (s_l01Finite _ _).mono ?_
            rintro e w' ⟨m2, rfl, rfl⟩
            rw [HFI.out]
            go_wp2
            refine bodyPost_ret (results_tmp3 rfl _ _ _) rfl ?_
          · exact ⟨_, by rw [(bg_no HO.out).1, HO.out]; rfl, by rw [(bg_no HO.out).2]; exact canon_zero, by first | exact BW.out | exact below_draws BW.out _ | exact below_draws (below_draws BW.out _) _⟩
          · exact ⟨_, by unfold bgI; rw [HO.out, ho.out]; rfl, by unfold bgR; rw [HO.out, ho.out]; exact hm.out, by first | exact BW.out | exact below_draws BW.out _ | exact below_draws (below_draws BW.out _) _⟩
end Go.Proofs.Ytigfonnlhiedhac
