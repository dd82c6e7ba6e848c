/- The powers of a rose: both sides. No statement is proved here. -/
import Derived.Test.YteligfbbofgonabRosM
import Derived.Test.YteligfbbofgonabApp
import Derived.Test.YteligfbbofgonabGreat
namespace Go.Proofs.Yteligfbbofgonab
open Go Go.RowKit
def spAt (a l : List Nat) (d k : Nat) : Nat := fop .mul .f32 (canon .f32 (a.getD k 0)) (powV d (l.getD k 0))
def spK (a l : List Nat) (d : Nat) : Nat → Nat
  | 0 => 0
  | k + 1 => fop .add .f32 (spK a l d k) (spAt a l d k)
def secO (a l : List Nat) (d : Nat) : Bool := rosV a l && alls (fun k => powO d (l.getD k 0)) l.length
def porO (a l : List Nat) (d : Nat) : Bool := rosV a l && (amount d && fin .f32 (spK a l d a.length))
def porR (a l : List Nat) (d : Nat) : Nat := if rosV a l && amount d then onlyN (spK a l d a.length) else 0
theorem spK_no {a l : List Nat} {d k n : Nat} (h : fin .f32 (spAt a l d k) = false) (hk : k < n) : fin .f32 (spK a l d n) = false := by
  induction n with
  | zero => omega
  | succ n ih =>
    by_cases e : k = n
    · rw [← e]; exact addR_not_fin h
    · exact addL_not_fin (ih (by omega))
theorem alls_ex {p : Nat → Bool} {n : Nat} (h : alls p n = false) : ∃ k, k < n ∧ p k = false := by
  induction n with
  | zero => cases h
  | succ n ih =>
    simp only [alls, Bool.and_eq_false_iff] at h
    rcases h with h | h
    · obtain ⟨k, hk, hp⟩ := ih h; exact ⟨k, by omega, hp⟩
    · exact ⟨n, by omega, h⟩
theorem secO_yes {a l : List Nat} {d : Nat} (h : secO a l d = true) : rosV a l = true ∧ amount d = true ∧ ∀ k, k < a.length → fin .f32 (powV d (l.getD k 0)) = true ∧ amount (l.getD k 0) = true := by
  unfold secO at h
  rw [Bool.and_eq_true] at h
  obtain ⟨h1, h2, h3⟩ := rosV_sized h.1
  have hp := alls_at h.2
  have h0 := hp 0 (by omega)
  unfold powO at h0
  simp only [Bool.and_eq_true] at h0
  refine ⟨h.1, h0.1, fun k hk => ?_⟩
  have := hp k (by omega)
  unfold powO at this
  simp only [Bool.and_eq_true] at this
  exact ⟨this.2.2, this.2.1⟩
theorem secO_no {a l : List Nat} {d : Nat} (hv : rosV a l = true) (h : secO a l d = false) (hd : amount d = true) : ∃ k, k < a.length ∧ fin .f32 (powV d (l.getD k 0)) = false := by
  unfold secO at h
  rw [hv, Bool.true_and] at h
  obtain ⟨k, hk, hp⟩ := alls_ex h
  obtain ⟨h1, h2, h3⟩ := rosV_sized hv
  refine ⟨k, by omega, ?_⟩
  have := amts_at (rosV_amts hv).2 k hk
  unfold powO at hp
  rw [hd, this] at hp
  simpa using hp
theorem porO_no {a l : List Nat} {d : Nat} (h : secO a l d = false) : porO a l d = false ∧ porR a l d = 0 := by
  unfold porO porR
  cases hv : rosV a l
  · exact ⟨rfl, rfl⟩
  · cases hd : amount d
    · exact ⟨rfl, rfl⟩
    · obtain ⟨k, hk, hp⟩ := secO_no hv h hd
      have := spK_no (a := a) (l := l) (d := d) (mulR_not_fin hp) hk
      exact ⟨by rw [this]; rfl, by simp only [Bool.and_self, if_true]; unfold onlyN; rw [this]; rfl⟩
theorem sumK_sp {a l zs : List Nat} {d n : Nat} (h : ∀ k, k < n → canon .f32 (zs.getD k 0) = spAt a l d k) : ∀ k, k ≤ n → sumK zs k = spK a l d k := by
  intro k; induction k with
  | zero => intro _; rfl
  | succ k ih => intro hk; simp only [sumK, spK, ih (by omega), h k (by omega)]
set_option maxHeartbeats 4000000 in
set_option maxRecDepth 100000 in
theorem i_powersOf_sec (c0 : Value) (q : Nat → Nat) (p : Nat → Bool) (A : Option Addr) (cap : Nat) (xs : List Nat) (w : World) (h : Fl w A xs) (hn : xs.length ≤ 32)
    (hat : ∀ k, k < xs.length → ∀ wr, Below w.heap.size w wr → Calls Try.prog 116 #[.float .f32 (xs.getD k 0), c0] wr fun e w' => ∃ r, e = .returned (.tuple #[.float .f32 r, .bool (p k)]) ∧ canon .f32 r = q k ∧ Below wr.heap.size wr w') :
    Calls Try.prog 115 #[.slice A xs.length cap, .func (.func 116) #[] #[c0]] w fun e w' => ∃ (A' : Option Addr) (cap' : Nat) (ys : List Nat), e = .returned (.tuple #[.slice A' ys.length cap', .bool (alls p xs.length)]) ∧ Fl w' A' ys ∧ (alls p xs.length = true → ys.length = xs.length ∧ ∀ k, k < xs.length → canon .f32 (ys.getD k 0) = q k) ∧ Below w.heap.size w w' := by
  have HA := Lib.hid hat; clear hat
  have HF := Lib.hid h; clear h
  obtain ⟨i0, hi, hz0, hz1, hz2⟩ := info_parts f32_info
  have hmk := run_make (P := Try.prog) w 22 32 i0 (.float .f32 0) (by kernel_rfl) hi hz0 .i64 .i64 0 xs.length (by omega) (by omega) (by rw [hz2]; omega) (by omega)
  rw [hz1] at hmk
  have hmk' : (Instr.makeSlice 22 (.int .i64 0) (.int .i64 xs.length)).run Try.prog w = .ok (.slice (some ⟨w.heap.size, 0, none⟩) 0 xs.length) (w.alloc (.cells (madeCells #[.float .f32 0] xs.length) 32)) := by
    rw [hmk]; simp [Value.cells]
  clear hmk
  have hst : Gr (w.alloc (.cells (madeCells #[.float .f32 0] xs.length) 32)) w.heap.size (.slice (some ⟨w.heap.size, 0, none⟩) 0 xs.length) [] := Gr.made _ _ _ _ (Nat.le_refl _) (by unfold maxLen; omega) (by simp [madeCells])
  have hb0 : Below w.heap.size w (w.alloc (.cells (madeCells #[.float .f32 0] xs.length) 32)) := (Below.refl _ _).alloc (Nat.le_refl _) _
  have HST := Lib.hid hst
  have HB0 := Lib.hid hb0
  clear hst hb0
  go_enter Try.func115, Try.ntmps115
  go_wp2
  clear hmk'
  go_loopw [6, 19] (fun v i wr => ∃ (k : Nat) (ys : List Nat), k ≤ xs.length ∧ i = .int .i64 k ∧ Hid (Gr wr w.heap.size v ys) ∧ Hid (ys.length = k) ∧ Hid (alls p k = true) ∧ Hid (∀ j, j < k → canon .f32 (ys.getD j 0) = q j) ∧ Hid (Below w.heap.size w wr)) (fun _ i _ => xs.length - (intOf i).toNat)
  case atStart => exact ⟨0, [], Nat.zero_le _, rfl, HST, rfl, rfl, Lib.hid (fun j hj => absurd hj (Nat.not_lt_zero j)), HB0⟩
  case round =>
    obtain ⟨k, ys, hk, rfl, HG, HL, HP, HQ, HBW⟩ := hrel
    by_cases hlt : k < xs.length
    · obtain ⟨b, off, rfl, hb, hc⟩ := HF.out.at_ hlt
      rw [← HBW.out.cell (p := ⟨b, off + k, none⟩) hb] at hc
      have hcall := Lib.hid (HA.out k hlt _ HBW.out)
      have HX : Hid (xs.getD k 0 = xs.getD k 0) := rfl
      obtain ⟨x, hx⟩ : ∃ x, x = xs.getD k 0 := ⟨_, rfl⟩
      rw [← hx] at hc hcall
      clear hx HX hb
      go_wp2_with fail
      refine hcall.out.mono ?_
      rintro e w1 ⟨r, rfl, hr, b1⟩
      have HG1 := Lib.hid (HG.out.below b1)
      have HB1 : Hid (Below w.heap.size w w1) := Lib.hid (below_of HBW.out HBW.out.size b1)
      have HR := Lib.hid hr
      clear hr b1 hc hcall
      cases pk : p k
      · have HN : Hid (alls p xs.length = false) := Lib.hid (alls_no (k := k + 1) (by simp only [alls, pk, Bool.and_false]) (by omega))
        clear pk
        go_wp2
        go_ret2
        exact ⟨none, 0, [], by rw [HN.out]; rfl, .inl rfl, fun h => absurd h (by rw [HN.out]; decide), HB1.out⟩
      · have HN : Hid (alls p (k + 1) = true) := Lib.hid (by simp only [alls, pk, HP.out, Bool.and_true])
        have hown := HG1.out
        clear pk
        unfold Gr at hown
        go_wp2_with (first
          | (at_builtin; refine wpList_append_own _ rfl _ _ 22 rfl w.heap.size 32 i0 (.float .f32 0) 1 4 Try.underlying22 hi hz0 hz1 hz2 rfl (by decide) _ _ _ rfl (hown.alloc _) ⟨_, 0, none⟩ 1 1 [.float .f32 r] rfl rfl ?c1 ?c2 ?c3 ?c4 ?c5 ?_)
          | fail)
        case c1 =>
          intro j u hj
          match j, hj with
          | 0, hj => simp at hj; subst hj; simp [Addr.add]
        case c2 => intro u hu; simp at hu; subst hu; rfl
        case c3 => have := HL.out; unfold maxLen; omega
        case c4 => have := HL.out; omega
        case c5 => have := HB1.out.size; simp; omega
        · intro v' w2 hown' hgrow _
          obtain ⟨g2, b2⟩ := Gr.next HG1.out HB1.out (Nat.le_refl _) hown' hgrow
          have HG2 := Lib.hid g2
          have HB2 := Lib.hid b2
          have HQ2 : Hid (∀ j, j < k + 1 → canon .f32 ((ys ++ [r]).getD j 0) = q j) := Lib.hid (fun j hj => by
            rw [getD_snoc _ _ _ (by rw [HL.out]; exact hj), HL.out]
            split
            · rename_i e; rw [HR.out, e]
            · exact HQ.out j (by omega))
          have HL2 : Hid ((ys ++ [r]).length = k + 1) := Lib.hid (by simp [HL.out])
          clear g2 b2 hown hown' hgrow
          go_wp2
          go_roundw
          case rel => exact ⟨k + 1, _, by omega, by go_num, HG2, HL2, HN, HQ2, HB2⟩
          case measure => simp [intOf]; omega
    · have hkk : k = xs.length := by omega
      subst hkk
      obtain ⟨A', cap', b', rfl, ho⟩ := HG.out.own
      have HO := Lib.hid ho.fl
      clear ho
      go_wp2
      go_ret2
      exact ⟨A', cap', ys, by rw [HP.out]; rfl, HO.out, fun _ => ⟨HL.out, HQ.out⟩, HBW.out⟩
theorem i_secAt (B d x : Nat) (w : World) (hk : w.cell? ⟨B, 0, none⟩ = some (.float .f32 d)) :
    Calls Try.prog 116 #[.float .f32 x, .pointer (some ⟨B, 0, none⟩)] w fun e w' => ∃ r, e = .returned (.tuple #[.float .f32 r, .bool (powO d x)]) ∧ canon .f32 r = powR d x ∧ ∃ n, w' = w.drewN n := by
  go_enter Try.func116, Try.ntmps116
  go_wp2_with fail
  refine (i_AirPower d x _).mono ?_
  rintro e w' ⟨r, n, rfl, hr, rfl⟩
  have HR := Lib.hid hr; clear hr
  go_wp2
  go_ret2
  exact ⟨_, rfl, HR.out, _, rfl⟩
set_option maxHeartbeats 4000000 in
set_option maxRecDepth 100000 in
theorem i_sectorPowers (A L : Option Addr) (ca cl : Nat) (a l : List Nat) (d : Nat) (w : World) (h : Rs w A L a l) (hn : FewS a l) :
    Calls Try.prog 63 #[.agg #[.slice A a.length ca, .slice L l.length cl], .float .f32 d] w fun e w' => ∃ (Z : Option Addr) (cz : Nat) (zs : List Nat), e = .returned (.tuple #[.slice Z zs.length cz, .bool (secO a l d)]) ∧ Fl w' Z zs ∧ (secO a l d = true → zs.length = a.length ∧ ∀ k, k < a.length → canon .f32 (zs.getD k 0) = spAt a l d k) ∧ Below w.heap.size w w' := by
  have HP := Lib.hid h; clear h
  obtain ⟨w0, hw0⟩ : ∃ w0, w0 = (w.alloc (.cells #[.slice A a.length ca, .slice L l.length cl] 27)).alloc (.cells #[.float .f32 d] 32) := ⟨_, rfl⟩
  have B0 : Hid (Below w.heap.size w w0) := Lib.hid (by rw [hw0]; exact ((Below.refl _ _).alloc (Nat.le_refl _) _).alloc (by simp) _)
  have K0 : Hid (BlkL w0 w.heap.size [.slice A a.length ca, .slice L l.length cl]) := Lib.hid (by rw [hw0]; exact (blkL_at w #[.slice A a.length ca, .slice L l.length cl] 27 rfl).alloc _)
  have D0 : Hid (BlkL w0 (w.heap.size + 1) [.float .f32 d]) := Lib.hid (by rw [hw0]; exact blkL_at (w.alloc _) #[.float .f32 d] 32 (by simp))
  have k0 := (K0.out.2 0 _ rfl).1
  have k1 := (K0.out.2 1 _ rfl).1
  go_enter Try.func63, Try.ntmps63
  go_wp2_with fail
  rw [← hw0]
  clear hw0
  go_wp2_with fail
  refine (i_ValidRose A L ca cl a l _ (HP.out.below B0.out) hn).mono ?_
  rintro e w1 ⟨rfl, b1⟩
  have B1 : Hid (Below w.heap.size w w1) := Lib.hid (below_of B0.out B0.out.size b1)
  have K1 : Hid (BlkL w1 w.heap.size [.slice A a.length ca, .slice L l.length cl]) := Lib.hid (K0.out.below b1)
  have D1 : Hid (BlkL w1 (w.heap.size + 1) [.float .f32 d]) := Lib.hid (D0.out.below b1)
  clear b1 k0 k1
  obtain ⟨k0, k1⟩ := K1.out.two
  cases v : rosV a l
  · have HN : Hid (secO a l d = false) := Lib.hid (by unfold secO; rw [v]; rfl)
    clear v
    go_wp2
    go_ret2
    exact ⟨none, 0, [], by rw [HN.out]; rfl, .inl rfl, fun h => absurd h (by rw [HN.out]; decide), B1.out⟩
  · obtain ⟨s1, s2, s3⟩ := rosV_sized v
    have HV : Hid (secO a l d = alls (fun k => powO d (l.getD k 0)) l.length) := Lib.hid (by unfold secO; rw [v]; rfl)
    have S3 := Lib.hid s3
    have HPB := Lib.hid (HP.out.below B1.out)
    clear v s3
    go_wp2_with fail
    refine (i_powersOf_sec _ (fun k => powR d (l.getD k 0)) (fun k => powO d (l.getD k 0)) L cl l _ HPB.out.2 (by have := S3.out; omega) (fun k hk wr hb => (i_secAt (w.heap.size + 1) d _ wr ((D1.out.below hb).2 0 _ rfl).1).mono fun e w' ⟨r, he, hr, n, hw⟩ => ⟨r, he, hr, by rw [hw]; exact below_draws (Below.refl _ _) _⟩)).mono ?_
    rintro e w2 ⟨A', cap', ys, rfl, hf, hq, b2⟩
    rw [← HV.out]
    have B2 : Hid (Below w.heap.size w w2) := Lib.hid (below_of B1.out B1.out.size b2)
    have K2 : Hid (BlkL w2 w.heap.size [.slice A a.length ca, .slice L l.length cl]) := Lib.hid (K1.out.below b2)
    have HF := Lib.hid hf
    rw [← HV.out] at hq
    have HQ := Lib.hid hq
    clear b2 hf hq k0 k1
    obtain ⟨k0, k1⟩ := K2.out.two
    cases so : secO a l d
    · have SO := Lib.hid so; clear so
      go_wp2
      go_ret2
      exact ⟨none, 0, [], by rw [SO.out]; rfl, .inl rfl, fun h => absurd h (by rw [SO.out]; decide), B2.out⟩
    · have SO := Lib.hid so
      obtain ⟨hy1, hy2⟩ := HQ.out so
      obtain ⟨-, -, hpw⟩ := secO_yes so
      have hle : a.length ≤ ys.length := by have := S3.out; omega
      have HY2 := Lib.hid hy2
      have HPW := Lib.hid hpw
      clear so hy1 hy2 hpw
      go_wp2_with fail
      refine (i_productsOf A A' ca cap' a ys _ (HP.out.1.below B2.out) HF.out (by omega) hle).mono ?_
      rintro e w3 ⟨Z, zs, rfl, hlen, hfl, hz, b3⟩
      have B3 : Hid (Below w.heap.size w w3) := Lib.hid (below_of B2.out B2.out.size b3)
      have HZ := Lib.hid hfl
      have HL := Lib.hid hlen
      have HZZ : Hid (∀ k, k < a.length → canon .f32 (zs.getD k 0) = spAt a l d k) := Lib.hid (fun k hk => by
        rw [hz k hk]
        unfold prodAt spAt
        rw [HY2.out k (by have := S3.out; omega)]
        unfold powR
        obtain ⟨f1, f2⟩ := HPW.out k hk
        rw [(secO_yes SO.out).2.1, f2]
        simp only [Bool.and_self, if_true]
        rw [onlyN_fin f1])
      clear b3 hfl hz hlen k0 k1
      go_wp2
      go_ret2
      exact ⟨Z, a.length, zs, by rw [HL.out, SO.out]; rfl, HZ.out, fun _ => ⟨HL.out, HZZ.out⟩, B3.out⟩
set_option maxHeartbeats 4000000 in
set_option maxRecDepth 100000 in
theorem i_PowerOfRose (A L : Option Addr) (ca cl : Nat) (a l : List Nat) (d : Nat) (w : World) (h : Rs w A L a l) (hn : FewS a l) :
    Calls Try.prog 26 #[.agg #[.slice A a.length ca, .slice L l.length cl], .float .f32 d] w fun e w' => ∃ r, e = .returned (.tuple #[.float .f32 r, .bool (porO a l d)]) ∧ canon .f32 r = porR a l d ∧ Below w.heap.size w w' := by
  have HP := Lib.hid h; clear h
  have HB : ∀ o1, Hid (Below w.heap.size w (w.alloc o1)) := fun _ => Lib.hid ((Below.refl _ _).alloc (Nat.le_refl _) _)
  go_enter Try.func26, Try.ntmps26
  go_wp2_with fail
  refine (i_sectorPowers A L ca cl a l d _ (HP.out.below (HB _).out) hn).mono ?_
  rintro e w1 ⟨Z, cz, zs, rfl, hf, hq, b1⟩
  have B1 : Hid (Below w.heap.size w w1) := Lib.hid (below_of (HB _).out (HB _).out.size b1)
  have HF := Lib.hid hf
  have HQ := Lib.hid hq
  clear b1 hf hq
  cases so : secO a l d
  · have HN := Lib.hid (porO_no so); clear so
    go_wp2
    go_ret2
    exact ⟨_, by rw [HN.out.1]; rfl, by rw [HN.out.2]; exact canon_zero, B1.out⟩
  · obtain ⟨hl, hz⟩ := HQ.out so
    obtain ⟨hv, hd, -⟩ := secO_yes so
    have hs := rosV_sized hv
    have HS : Hid (sumK zs zs.length = spK a l d a.length) := Lib.hid (by rw [hl]; exact sumK_sp hz _ (Nat.le_refl _))
    have h256 : zs.length ≤ 256 := by have := hs.2.1; omega
    have HV := Lib.hid hv
    have HD := Lib.hid hd
    clear so hl hz hv hd hs
    go_wp2_with fail
    refine (i_sumOf Z cz zs _ HF.out h256).mono ?_
    rintro e w' ⟨r, n, rfl, hr, rfl⟩
    have HR : Hid (canon .f32 r = spK a l d a.length) := Lib.hid (by rw [hr, HS.out])
    clear hr
    go_wp2_with fail
    refine (i_onlyFiniteC _ _ _ HR.out).mono ?_
    rintro e w' ⟨r3, n4, rfl, h3, rfl⟩
    have H3 := Lib.hid h3; clear h3
    go_wp2
    go_ret2
    exact ⟨_, by unfold porO; rw [HV.out, HD.out]; rfl, by rw [H3.out]; unfold porR; rw [HV.out, HD.out]; rfl, by repeat (first | exact B1.out | refine below_draws ?_ _)⟩
set_option maxHeartbeats 8000000 in
set_option maxRecDepth 100000 in
theorem s_PowerOfRose (A L : Option Addr) (ca cl : Nat) (a l : List Nat) (d : Nat) (w : World) (h : Rs w A L a l) (hn : FewS a l) :
    Calls Try.prog 25 #[.agg #[.slice A a.length ca, .slice L l.length cl], .float .f32 d] w fun e w' => ∃ r, e = .returned (.tuple #[.float .f32 r, .bool (porO a l d)]) ∧ canon .f32 r = porR a l d ∧ Below w.heap.size w w' := by
  have HP := Lib.hid h; clear h
  obtain ⟨w1, hw1⟩ : ∃ w1, w1 = w.alloc (.cells #[.slice A a.length ca, .slice L l.length cl] 27) := ⟨_, rfl⟩
  have B1 : Hid (Below w.heap.size w w1) := Lib.hid (by rw [hw1]; exact (Below.refl _ _).alloc (Nat.le_refl _) _)
  have K1 : Hid (BlkL w1 w.heap.size [.slice A a.length ca, .slice L l.length cl]) := Lib.hid (by rw [hw1]; exact blkL_at w #[.slice A a.length ca, .slice L l.length cl] _ rfl)
  obtain ⟨k0, k1⟩ := K1.out.two
  have HPB := Lib.hid (HP.out.below B1.out)
  go_enter Try.func25, Try.ntmps25
  go_wp2_with fail
  rw [← hw1]
  clear hw1
  refine (s_l04Rose A L ca cl a l _ _ HPB.out hn K1.out).mono ?_
  rintro e w' ⟨rfl, n1, rfl⟩
  cases v : rosV a l
  · go_wp2
    go_ret2
    exact ⟨_, by unfold porO; rw [v]; rfl, by unfold porR; rw [v]; exact canon_zero, below_draws B1.out _⟩
  · have V := Lib.hid v
    obtain ⟨s1, s2, s3⟩ := rosV_sized v
    clear v
    have hle : a.length ≤ l.length := by omega
    have S3 := Lib.hid s3; clear s3
    go_wp2_with fail
    refine (s_l02Least _ _).mono ?_
    rintro e w' ⟨n2, rfl, rfl⟩
    cases pd : amount d
    · go_wp2
      go_ret2
      exact ⟨_, by unfold porO; rw [V.out, pd]; rfl, by unfold porR; rw [V.out, pd]; exact canon_zero, by repeat (first | exact B1.out | refine below_draws ?_ _)⟩
    · have PD := Lib.hid pd; clear pd
      go_wp2_with fail
      go_loopw [6, 7] (fun s i wr => ∃ k n r : Nat, k ≤ a.length ∧ i = .int .i64 k ∧ s = .float .f32 r ∧ Hid (canon .f32 r = spK a l d k) ∧ wr = w1.drewN n) (fun _ i _ => a.length - (intOf i).toNat)
      case atStart => exact ⟨0, _, 0, Nat.zero_le _, rfl, rfl, canon_zero, rfl⟩
      case round =>
        obtain ⟨k, n, r, hk, rfl, rfl, hr, rfl⟩ := hrel
        by_cases hlt : k < a.length
        · obtain ⟨b, off, rfl, hb, hc⟩ := HPB.out.1.at_ hlt
          obtain ⟨b', off', rfl, hb', hc'⟩ := HPB.out.2.at_ (show k < l.length by omega)
          have hlt2 : k < l.length := by omega
          have HS : Hid (spK a l d (k + 1) = fop .add .f32 (spK a l d k) (fop .mul .f32 (canon .f32 (a.getD k 0)) (powV d (l.getD k 0)))) := rfl
          generalize a.getD k 0 = x at hc HS
          generalize l.getD k 0 = y at hc' HS
          clear hb hb'
          have hdd : ∀ nn j, ∃ mm, (w1.drewN nn).drewN j = w1.drewN mm := fun nn j => ⟨nn + j, World.drewN_drewN ..⟩
          have hst : ∀ m, ∃ nn, { (w1.drewN m) with drawn := (w1.drewN m).drawn + 1 } = w1.drewN nn := fun m => ⟨m + 1, rfl⟩
          go_wp2_with fail
          refine wp_region_inv3 (fun q0 v => match q0 with
            | 0 => ∃ r, v = .float .f32 r ∧ canon .f32 r = (spK a l d k)
            | 1 => v = .pointer (some ⟨w.heap.size, 0, none⟩)
            | 2 => v = .slice (some ⟨b, off, none⟩) a.length ca
            | 3 => v = .int .i64 k
            | 4 => v = .pointer (some ⟨b, off + k, none⟩)
            | 5 => v = .float .f32 x
            | 6 => v = .float .f32 d
            | 7 => v = .pointer (some ⟨w.heap.size, 1, none⟩)
            | 8 => v = .slice (some ⟨b', off', none⟩) l.length cl
            | 9 => v = .int .i64 k
            | 10 => v = .pointer (some ⟨b', off' + k, none⟩)
            | 11 => v = .float .f32 y
            | 12 => ∃ r, v = .float .f32 r ∧ canon .f32 r = powV d y
            | 13 => ∃ r, v = .float .f32 r ∧ canon .f32 r = fop .mul .f32 (canon .f32 x) (powV d y)
            | 14 => ∃ r, v = .float .f32 r ∧ canon .f32 r = fop .add .f32 ((spK a l d k)) (fop .mul .f32 (canon .f32 x) (powV d y))
            | 15 => ∃ r, v = .float .f32 r ∧ canon .f32 r = fop .add .f32 ((spK a l d k)) (fop .mul .f32 (canon .f32 x) (powV d y))
            | _ => False) (fun _ ww => ∃ nn, ww = w1.drewN nn) (by kernel_rfl) (by kernel_rfl) (hst _) ?hop ?hend
          case hop =>
            intro q o hq listed act w3 hI hnot hcl hall
            obtain ⟨nn, rfl⟩ := hI.cls
            rcases q with _ | _ | _ | _ | _ | _ | _ | _ | _ | _ | _ | _ | _ | _ | _ | _ | q
            · simp at hq; subst hq
              have hnl : listed.getD 15 false = false := hcl.not (j := 15) (i := 0) (e := ⟨0, .phase⟩) rfl (by simp) rfl rfl hnot
              have g6 : act.tmps[6]?.getD undef = .float .f32 r := hI.keptN 6 15 (by kernel_rfl) hnl
              clear hI hall hnot hcl
              refine .inl ⟨wanted_none rfl, ?_⟩
              unfold Oper.wp
              go_simp
              exact ⟨_, rfl, ⟨_, rfl, hr.out⟩, ⟨_, rfl⟩⟩
            · simp at hq; subst hq
              have g2 : act.tmps[2]?.getD undef = .pointer (some ⟨w.heap.size, 0, none⟩) := hI.kept 2 (by kernel_rfl)
              clear hI hall hnot hcl
              refine .inl ⟨wanted_none rfl, ?_⟩
              unfold Oper.wp
              go_simp
              all_goals exact ⟨_, rfl, rfl, ⟨_, rfl⟩⟩
            · simp at hq; subst hq
              have g23 : act.tmps[23]?.getD undef = .pointer (some ⟨w.heap.size, 0, none⟩) := hI.has 1 23 rfl (hall ⟨1, .data⟩ (by simp) rfl)
              clear hI hall hnot hcl
              refine .inl ⟨wanted_none rfl, ?_⟩
              unfold Oper.wp
              go_simp
              all_goals exact ⟨_, rfl, rfl, ⟨_, rfl⟩⟩
            · simp at hq; subst hq
              have g7 : act.tmps[7]?.getD undef = .int .i64 k := hI.kept 7 (by kernel_rfl)
              clear hI hall hnot hcl
              refine .inl ⟨wanted_none rfl, ?_⟩
              unfold Oper.wp
              go_simp
              all_goals exact ⟨_, rfl, rfl, ⟨_, rfl⟩⟩
            · simp at hq; subst hq
              have g24 : act.tmps[24]?.getD undef = .slice (some ⟨b, off, none⟩) a.length ca := hI.has 2 24 rfl (hall ⟨2, .data⟩ (by simp) rfl)
              have g25 : act.tmps[25]?.getD undef = .int .i64 k := hI.has 3 25 rfl (hall ⟨3, .data⟩ (by simp) rfl)
              clear hI hall hnot hcl
              refine .inl ⟨wanted_none rfl, ?_⟩
              unfold Oper.wp
              go_simp
              all_goals exact ⟨_, rfl, rfl, ⟨_, rfl⟩⟩
            · simp at hq; subst hq
              have g26 : act.tmps[26]?.getD undef = .pointer (some ⟨b, off + k, none⟩) := hI.has 4 26 rfl (hall ⟨4, .data⟩ (by simp) rfl)
              clear hI hall hnot hcl
              refine .inl ⟨wanted_none rfl, ?_⟩
              unfold Oper.wp
              go_simp
              all_goals exact ⟨_, rfl, rfl, ⟨_, rfl⟩⟩
            · simp at hq; subst hq
              have g1 : act.tmps[1]?.getD undef = .float .f32 d := hI.kept 1 (by kernel_rfl)
              clear hI hall hnot hcl
              refine .inl ⟨wanted_none rfl, ?_⟩
              unfold Oper.wp
              go_simp
              all_goals exact ⟨_, rfl, rfl, ⟨_, rfl⟩⟩
            · simp at hq; subst hq
              have g2 : act.tmps[2]?.getD undef = .pointer (some ⟨w.heap.size, 0, none⟩) := hI.kept 2 (by kernel_rfl)
              clear hI hall hnot hcl
              refine .inl ⟨wanted_none rfl, ?_⟩
              unfold Oper.wp
              go_simp
              all_goals exact ⟨_, rfl, rfl, ⟨_, rfl⟩⟩
            · simp at hq; subst hq
              have g29 : act.tmps[29]?.getD undef = .pointer (some ⟨w.heap.size, 1, none⟩) := hI.has 7 29 rfl (hall ⟨7, .data⟩ (by simp) rfl)
              clear hI hall hnot hcl
              refine .inl ⟨wanted_none rfl, ?_⟩
              unfold Oper.wp
              go_simp
              all_goals exact ⟨_, rfl, rfl, ⟨_, rfl⟩⟩
            · simp at hq; subst hq
              have g7 : act.tmps[7]?.getD undef = .int .i64 k := hI.kept 7 (by kernel_rfl)
              clear hI hall hnot hcl
              refine .inl ⟨wanted_none rfl, ?_⟩
              unfold Oper.wp
              go_simp
              all_goals exact ⟨_, rfl, rfl, ⟨_, rfl⟩⟩
            · simp at hq; subst hq
              have g30 : act.tmps[30]?.getD undef = .slice (some ⟨b', off', none⟩) l.length cl := hI.has 8 30 rfl (hall ⟨8, .data⟩ (by simp) rfl)
              have g31 : act.tmps[31]?.getD undef = .int .i64 k := hI.has 9 31 rfl (hall ⟨9, .data⟩ (by simp) rfl)
              clear hI hall hnot hcl
              refine .inl ⟨wanted_none rfl, ?_⟩
              unfold Oper.wp
              go_simp
              all_goals exact ⟨_, rfl, rfl, ⟨_, rfl⟩⟩
            · simp at hq; subst hq
              have g32 : act.tmps[32]?.getD undef = .pointer (some ⟨b', off' + k, none⟩) := hI.has 10 32 rfl (hall ⟨10, .data⟩ (by simp) rfl)
              clear hI hall hnot hcl
              refine .inl ⟨wanted_none rfl, ?_⟩
              unfold Oper.wp
              go_simp
              all_goals exact ⟨_, rfl, rfl, ⟨_, rfl⟩⟩
            · simp at hq; subst hq
              have g28 : act.tmps[28]?.getD undef = .float .f32 d := hI.has 6 28 rfl (hall ⟨6, .data⟩ (by simp) rfl)
              have g33 : act.tmps[33]?.getD undef = .float .f32 y := hI.has 11 33 rfl (hall ⟨11, .data⟩ (by simp) rfl)
              clear hI hall hnot hcl
              refine .inl ⟨wanted_none rfl, ?_⟩
              unfold Oper.wp
              go_simp
              refine (s_l04Power _ _ _).mono ?_
              rintro e w4 ⟨rp, np, rfl, hrp, rfl⟩
              exact ⟨_, rfl, ⟨_, rfl, hrp⟩, by first | exact ⟨_, rfl⟩ | exact hdd _ _⟩
            · simp at hq; subst hq
              have g27 : act.tmps[27]?.getD undef = .float .f32 x := hI.has 5 27 rfl (hall ⟨5, .data⟩ (by simp) rfl)
              obtain ⟨r12, g34, h12a⟩ := hI.has 12 34 rfl (hall ⟨12, .data⟩ (by simp) rfl)
              clear hI hall hnot hcl
              refine .inl ⟨wanted_none rfl, ?_⟩
              unfold Oper.wp
              go_simp
              exact ⟨_, rfl, ⟨_, rfl, canonF rfl h12a⟩, by first | exact ⟨_, rfl⟩ | exact hdd _ _⟩
            · simp at hq; subst hq
              obtain ⟨r0, g22, h0a⟩ := hI.has 0 22 rfl (hall ⟨0, .data⟩ (by simp) rfl)
              obtain ⟨r13, g35, h13a⟩ := hI.has 13 35 rfl (hall ⟨13, .data⟩ (by simp) rfl)
              clear hI hall hnot hcl
              refine .inl ⟨wanted_none rfl, ?_⟩
              unfold Oper.wp
              go_simp
              exact ⟨_, rfl, ⟨_, rfl, canonF h0a h13a⟩, by first | exact ⟨_, rfl⟩ | exact hdd _ _⟩
            · simp at hq; subst hq
              obtain ⟨r14, g36, h14a⟩ := hI.has 14 36 rfl (hall ⟨14, .data⟩ (by simp) rfl)
              clear hI hall hnot hcl
              refine .inl ⟨wanted_none rfl, ?_⟩
              unfold Oper.wp
              go_simp
              exact ⟨_, rfl, ⟨_, rfl, h14a⟩, ⟨_, rfl⟩⟩
            · simp at hq
          case hend =>
            intro listed act w3 hI hall
            obtain ⟨nn, rfl⟩ := hI.cls
            obtain ⟨rq, g6, hrq⟩ := hI.has 15 6 rfl (hall 15 (by decide))
            have g7 : act.tmps[7]?.getD undef = .int .i64 k := hI.kept 7 (by kernel_rfl)
            have g0 := hI.kept 0 (by kernel_rfl)
            conv at g0 => rhs; whnf
            have g1 := hI.kept 1 (by kernel_rfl)
            conv at g1 => rhs; whnf
            have g2 := hI.kept 2 (by kernel_rfl)
            conv at g2 => rhs; whnf
            have g3 : act.tmps[3]?.getD undef = undef := hI.kept 3 (by kernel_rfl)
            have g4 := hI.kept 4 (by kernel_rfl)
            conv at g4 => rhs; whnf
            have g5 := hI.kept 5 (by kernel_rfl)
            conv at g5 => rhs; whnf
            have g8 := hI.kept 8 (by kernel_rfl)
            conv at g8 => rhs; whnf
            have g9 := hI.kept 9 (by kernel_rfl)
            conv at g9 => rhs; whnf
            have g10 := hI.kept 10 (by kernel_rfl)
            conv at g10 => rhs; whnf
            have g11 := hI.kept 11 (by kernel_rfl)
            conv at g11 => rhs; whnf
            have g12 := hI.kept 12 (by kernel_rfl)
            conv at g12 => rhs; whnf
            have g13 := hI.kept 13 (by kernel_rfl)
            conv at g13 => rhs; whnf
            have g14 := hI.kept 14 (by kernel_rfl)
            conv at g14 => rhs; whnf
            have g37 : act.tmps[37]?.getD undef = undef := hI.kept 37 (by kernel_rfl)
            have g38 : act.tmps[38]?.getD undef = undef := hI.kept 38 (by kernel_rfl)
            have g39 : act.tmps[39]?.getD undef = undef := hI.kept 39 (by kernel_rfl)
            have g40 : act.tmps[40]?.getD undef = undef := hI.kept 40 (by kernel_rfl)
            have hsz : act.tmps.size = 41 := hI.size.trans (by kernel_rfl)
            have hd := hI.defers
            clear hI hall
            obtain ⟨tt, dd⟩ := act
            simp only at g0 g1 g2 g3 g4 g5 g6 g7 g8 g9 g10 g11 g12 g13 g14 g37 g38 g39 g40 hsz hd
            subst hd
            have hl : tt = #[tt[0]?.getD undef, tt[1]?.getD undef, tt[2]?.getD undef, tt[3]?.getD undef, tt[4]?.getD undef, tt[5]?.getD undef, tt[6]?.getD undef, tt[7]?.getD undef, tt[8]?.getD undef, tt[9]?.getD undef, tt[10]?.getD undef, tt[11]?.getD undef, tt[12]?.getD undef, tt[13]?.getD undef, tt[14]?.getD undef, tt[15]?.getD undef, tt[16]?.getD undef, tt[17]?.getD undef, tt[18]?.getD undef, tt[19]?.getD undef, tt[20]?.getD undef, tt[21]?.getD undef, tt[22]?.getD undef, tt[23]?.getD undef, tt[24]?.getD undef, tt[25]?.getD undef, tt[26]?.getD undef, tt[27]?.getD undef, tt[28]?.getD undef, tt[29]?.getD undef, tt[30]?.getD undef, tt[31]?.getD undef, tt[32]?.getD undef, tt[33]?.getD undef, tt[34]?.getD undef, tt[35]?.getD undef, tt[36]?.getD undef, tt[37]?.getD undef, tt[38]?.getD undef, tt[39]?.getD undef, tt[40]?.getD undef] := (arr_lit hsz).trans rfl
            rw [g0, g1, g2, g3, g4, g5, g6, g7, g8, g9, g10, g11, g12, g13, g14, g37, g38, g39, g40] at hl
            clear g0 g1 g2 g3 g4 g5 g6 g7 g8 g9 g10 g11 g12 g13 g14 g37 g38 g39 g40 hsz
            generalize tt[15]?.getD undef = y15 at hl
            generalize tt[16]?.getD undef = y16 at hl
            generalize tt[17]?.getD undef = y17 at hl
            generalize tt[18]?.getD undef = y18 at hl
            generalize tt[19]?.getD undef = y19 at hl
            generalize tt[20]?.getD undef = y20 at hl
            generalize tt[21]?.getD undef = y21 at hl
            generalize tt[22]?.getD undef = y22 at hl
            generalize tt[23]?.getD undef = y23 at hl
            generalize tt[24]?.getD undef = y24 at hl
            generalize tt[25]?.getD undef = y25 at hl
            generalize tt[26]?.getD undef = y26 at hl
            generalize tt[27]?.getD undef = y27 at hl
            generalize tt[28]?.getD undef = y28 at hl
            generalize tt[29]?.getD undef = y29 at hl
            generalize tt[30]?.getD undef = y30 at hl
            generalize tt[31]?.getD undef = y31 at hl
            generalize tt[32]?.getD undef = y32 at hl
            generalize tt[33]?.getD undef = y33 at hl
            generalize tt[34]?.getD undef = y34 at hl
            generalize tt[35]?.getD undef = y35 at hl
            generalize tt[36]?.getD undef = y36 at hl
            subst hl
            go_wp2
            go_roundw
            case rel => exact ⟨k + 1, _, _, by omega, by go_num, rfl, Lib.hid (by rw [hrq, HS.out]), rfl⟩
            case measure => simp [intOf]; omega
        · have hkk : k = a.length := by omega
          subst hkk
          go_wp2_with fail
          refine (s_l02NumberC _ _ _ hr.out).mono ?_
          rintro e w' ⟨r3, n4, rfl, h3, rfl⟩
          have H3 := Lib.hid h3; clear h3
          go_wp2
          go_ret2
          exact ⟨_, by unfold porO; rw [V.out, PD.out]; rfl, by rw [H3.out]; unfold porR; rw [V.out, PD.out]; rfl, by repeat (first | exact B1.out | refine below_draws ?_ _)⟩
end Go.Proofs.Yteligfbbofgonab
