/- A whole number out of a text: the specification. No statement is proved here. -/
import Derived.Test.YtknabmknboffgaaGreatDoorRdD
import Derived.Test.YtknabmknboffgaaGreatDoorCutS
namespace Go.Proofs.YtknabmknboffgaaGreatDoor
open Go Go.RowKit
def svS (a : Nat) (c : UInt8) : Nat := if 48 ≤ c.toNat ∧ c.toNat ≤ 57 then 10 * a + (c.toNat - 48) else a
/-- what the digits of a text tell, whatever stands between them -/
def sv (l : List UInt8) : Nat := l.foldl svS 0
theorem sv_snoc (l : List UInt8) (c : UInt8) : sv (l ++ [c]) = svS (sv l) c := by simp [sv]
theorem sv_dv : ∀ (l : List UInt8) (a : Nat), digs l → l.foldl svS a = dv l a
  | [], _, _ => rfl
  | c :: l, a, h => by
    have hc := h c (List.mem_cons_self ..)
    show l.foldl svS (svS a c) = dv l (10 * a + (c.toNat - 48))
    rw [show svS a c = 10 * a + (c.toNat - 48) from if_pos hc]
    exact sv_dv l _ (fun x hx => h x (List.mem_cons_of_mem _ hx))
theorem sv_itoa (n : Int) : sv (Lib.itoa n) = n.natAbs := by
  unfold Lib.itoa
  split
  · obtain ⟨hd, hv⟩ := decDigits_facts n.natAbs n.natAbs (Nat.le_refl _)
    show (Lib.decDigits n.natAbs).foldl svS (svS 0 45) = _
    rw [show svS 0 45 = 0 from by decide, sv_dv _ _ hd, hv]
  · obtain ⟨hd, hv⟩ := decDigits_facts n.toNat n.toNat (Nat.le_refl _)
    unfold sv
    rw [sv_dv _ _ hd, hv]
    omega
theorem sv_lt (l : List UInt8) : ∀ k, k ≤ l.length → sv (l.take k) < 10 ^ k := by
  intro k
  induction k with
  | zero => intro _; simp [sv]
  | succ k ih =>
    intro hk
    have h := ih (by omega)
    rw [List.take_succ_eq_append_getElem (by omega), sv_snoc, Nat.pow_succ]
    unfold svS
    split
    · omega
    · omega
/-- the number that the specification looks at -/
def svN (s : ByteArray) : Int := if s.data.toList.getD 0 0 = 45 then -(sv s.data.toList : Int) else (sv s.data.toList : Int)
theorem svN_of {s : ByteArray} {n : Int} (h : decS n = s) : svN s = n := by
  subst h
  unfold svN
  show (if (Lib.itoa n).getD 0 0 = 45 then -((sv (Lib.itoa n) : Nat) : Int) else ((sv (Lib.itoa n) : Nat) : Int)) = n
  rw [sv_itoa]
  by_cases hn : n < 0
  · have e : (Lib.itoa n).getD 0 0 = 45 := by unfold Lib.itoa; rw [if_pos hn]; rfl
    rw [if_pos e]; omega
  · obtain ⟨c, r, e, h1, h2⟩ := decDigits_ne n.toNat
    have e2 : (Lib.itoa n).getD 0 0 = c := by unfold Lib.itoa; rw [if_neg hn, e]; rfl
    rw [e2, if_neg (by intro h; rw [h] at h1; exact absurd h1 (by decide))]
    omega
def vlO (s : ByteArray) : Bool := decide (1 ≤ s.size ∧ s.size ≤ 17) && (inR (svN s) && decide (decS (svN s) = s))
def vlR (s : ByteArray) : Int := if vlO s then svN s else 0
theorem vl_size {s : ByteArray} (h : ¬ (1 ≤ s.size ∧ s.size ≤ 17)) : vlO s = false ∧ vlR s = 0 := by
  have e : vlO s = false := by unfold vlO; rw [decide_eq_false h]; rfl
  exact ⟨e, by unfold vlR; rw [e]; rfl⟩
theorem vl_range {s : ByteArray} (h : inR (svN s) = false) : vlO s = false ∧ vlR s = 0 := by
  have e : vlO s = false := by unfold vlO; rw [h]; simp
  exact ⟨e, by unfold vlR; rw [e]; rfl⟩
theorem vl_text {s : ByteArray} (h : decS (svN s) ≠ s) : vlO s = false ∧ vlR s = 0 := by
  have e : vlO s = false := by unfold vlO; rw [decide_eq_false h]; simp
  exact ⟨e, by unfold vlR; rw [e]; rfl⟩
theorem vl_yes {s : ByteArray} (h1 : 1 ≤ s.size ∧ s.size ≤ 17) (h2 : inR (svN s) = true) (h3 : decS (svN s) = s) : vlO s = true ∧ vlR s = svN s := by
  have e : vlO s = true := by unfold vlO; rw [decide_eq_true h1, h2, decide_eq_true h3]; rfl
  exact ⟨e, by unfold vlR; rw [e]; rfl⟩
theorem vl_iff {s : ByteArray} (h : vlO s = true) : DcN s (vlR s) := by
  have h' := h
  unfold vlO at h'
  simp only [Bool.and_eq_true, decide_eq_true_eq] at h'
  rw [(vl_yes h'.1 h'.2.1 h'.2.2).2]
  exact ⟨h'.2.1, h'.2.2⟩
theorem vl_none {s : ByteArray} (h : vlO s = false) (n : Int) : ¬ DcN s n := by
  intro ⟨h1, h2⟩
  have e := svN_of h2
  have hz := decS_size h1
  rw [h2] at hz
  have := (vl_yes (s := s) hz (by rw [e]; exact h1) (by rw [e]; exact h2)).1
  rw [h] at this
  cases this
theorem i_ReadDecimal (s : ByteArray) (w : World) (hs : s.size ≤ 1048576) (hT : T10 w) (hE : EV w) :
    Calls Tryz.prog 63 #[.string s] w fun e w' => e = .returned (.tuple #[.int .i64 (vlR s), .bool (vlO s)]) ∧ Below w.heap.size w w' := by
  cases h : vlO s
  · have e : vlR s = 0 := by unfold vlR; rw [h]; rfl
    rw [e]
    exact i_ReadDecimal_no s w hs (vl_none h) hT hE
  · exact i_ReadDecimal_yes s (vlR s) w hs (vl_iff h) hT
set_option maxHeartbeats 8000000 in
set_option maxRecDepth 100000 in
theorem s_l01Value (s : ByteArray) (w : World) :
    Calls Tryz.prog 51 #[.string s] w fun e w' => e = .returned (.tuple #[.int .i64 (vlR s), .bool (vlO s)]) ∧ Below w.heap.size w w' := by
  by_cases h0 : s.size = 0
  · have HN := Lib.hid (vl_size (s := s) (by omega))
    have hz : (s.size : Int) < 1 := by omega
    go_enter Tryz.func51, Tryz.ntmps51
    go_wp2
    go_ret2
    exact ⟨by rw [HN.out.1, HN.out.2]; rfl, Below.refl _ _⟩
  by_cases h17 : 17 < s.size
  · have HN := Lib.hid (vl_size (s := s) (by omega))
    have hz : ¬ (s.size : Int) < 1 := by omega
    have hz2 : (17 : Int) < (s.size : Int) := by omega
    go_enter Tryz.func51, Tryz.ntmps51
    go_wp2
    go_ret2
    exact ⟨by rw [HN.out.1, HN.out.2]; rfl, Below.refl _ _⟩
  have HSZ : Hid (1 ≤ s.size ∧ s.size ≤ 17) := Lib.hid (by omega)
  have hz : ¬ (s.size : Int) < 1 := by omega
  have hz2 : ¬ (17 : Int) < (s.size : Int) := by omega
  have HL : Hid (s.data.toList.length = s.size) := Lib.hid (Lib.size_eq s).symm
  clear h0 h17
  go_enter Tryz.func51, Tryz.ntmps51
  go_wp2
  clear hz hz2
  go_loopw [4, 5] (fun v i wr => ∃ (k : Nat) (a : Int), k ≤ s.size ∧ v = .int .i64 a ∧ i = .int .i64 k ∧ Hid (a = (sv (s.data.toList.take k) : Int)) ∧ wr = w) (fun _ i _ => s.size - (intOf i).toNat)
  case atStart => exact ⟨0, 0, Nat.zero_le _, rfl, rfl, Lib.hid rfl, rfl⟩
  case round =>
    obtain ⟨k, a, hk, rfl, rfl, HA, hwr⟩ := hrel
    obtain rfl : w = wr := hwr.symm
    have hb : sv (s.data.toList.take k) < 100000000000000000 := by
      have h1 := sv_lt s.data.toList k (by rw [HL.out]; exact hk)
      have h2 : (10 : Nat) ^ k ≤ 10 ^ 17 := Nat.pow_le_pow_right (by decide) (by have := HSZ.out; omega)
      have e : (10 : Nat) ^ 17 = 100000000000000000 := by decide
      omega
    have ha0 : 0 ≤ a := by have := HA.out; omega
    have ha1 : a < 100000000000000000 := by have := HA.out; omega
    clear hb
    have hs17 : s.size ≤ 17 := HSZ.out.2
    by_cases hlt : k < s.size
    · have hc255 : (s[k].toNat : Int) ≤ 255 := by have := s[k].toNat_lt; omega
      have HT : Hid (sv (s.data.toList.take (k + 1)) = svS (sv (s.data.toList.take k)) s[k]) := Lib.hid (by
        rw [List.take_succ_eq_append_getElem (by rw [HL.out]; exact hlt), sv_snoc]
        rfl)
      by_cases hd : 48 ≤ s[k].toNat ∧ s[k].toNat ≤ 57
      · have HN : Hid (10 * a + ((s[k].toNat : Int) - 48) = (sv (s.data.toList.take (k + 1)) : Int)) := Lib.hid (by
          rw [HT.out, show svS (sv (s.data.toList.take k)) s[k] = 10 * sv (s.data.toList.take k) + (s[k].toNat - 48) from if_pos hd]
          have := HA.out
          omega)
        obtain ⟨hd0, hd1⟩ := hd
        have f1 : (48 : Int) ≤ (s[k].toNat : Int) := by omega
        have f2 : (s[k].toNat : Int) ≤ 57 := by omega
        go_wp2
        go_roundw
        case rel => exact ⟨k + 1, _, by omega, rfl, by go_num, HN, by first | rfl | trivial⟩
        case measure => simp [intOf] <;> omega
      · have HN : Hid (a = (sv (s.data.toList.take (k + 1)) : Int)) := Lib.hid (by
          rw [HT.out, show svS (sv (s.data.toList.take k)) s[k] = sv (s.data.toList.take k) from if_neg hd]
          exact HA.out)
        by_cases e1 : s[k].toNat < 48
        · have f1 : ¬ (48 : Int) ≤ (s[k].toNat : Int) := by omega
          go_wp2
          go_roundw
          case rel => exact ⟨k + 1, _, by omega, rfl, by go_num, HN, by first | rfl | trivial⟩
          case measure => simp [intOf] <;> omega
        · have f1 : (48 : Int) ≤ (s[k].toNat : Int) := by omega
          have f2 : ¬ (s[k].toNat : Int) ≤ 57 := by omega
          go_wp2
          go_roundw
          case rel => exact ⟨k + 1, _, by omega, rfl, by go_num, HN, by first | rfl | trivial⟩
          case measure => simp [intOf] <;> omega
    · have hkk : k = s.size := by omega
      have HA2 : Hid (a = (sv s.data.toList : Int)) := Lib.hid (by have := HA.out; rwa [hkk, ← HL.out, List.take_length] at this)
      have h0s : 0 < s.size := by have := HSZ.out; omega
      have HG0 : Hid (s.data.toList.getD 0 0 = s[0]) := Lib.hid (get_list s 0 h0s)
      subst hkk
      clear HA hk hlt
      obtain ⟨b, hb⟩ : ∃ b : Bool, b = decide (s[0].toNat = 45) := ⟨_, rfl⟩
      obtain ⟨n, hn⟩ : ∃ n, n = svN s := ⟨_, rfl⟩
      have HN := Lib.hid hn
      have hnb : -100000000000000000 < n ∧ n < 100000000000000000 := by
        rw [hn]; unfold svN; have := HA2.out; split <;> omega
      obtain ⟨hn0, hn1⟩ := hnb
      have HGN : Hid (-9223372036854775808 ≤ n ∧ n ≤ 9223372036854775807) := Lib.hid ⟨by omega, by omega⟩
      by_cases h45 : s[0] = 45
      · have hna : n = -a := by rw [hn]; unfold svN; rw [HG0.out, if_pos h45, HA2.out]
        have hcb : ((s[0].toNat : Int) == 45) = true := by rw [h45]; rfl
        clear hn hb h45
        subst hna
        go_wp2_with fail
        refine (s_l00In _ _ _ _).mono ?_
        rintro e wf ⟨rfl, hwf⟩
        obtain rfl : w = wf := hwf.symm
        have HRE : Hid (inR (-a) = (decide (-1000000000000000 ≤ -a) && decide (-a ≤ 1000000000000000))) := Lib.hid rfl
        rw [← HRE.out]
        cases hr : inR (-a)
        · have HV := Lib.hid (vl_range (s := s) (by rw [← HN.out]; exact hr))
          clear hr
          go_wp2
          go_ret2
          exact ⟨by rw [HV.out.1, HV.out.2]; rfl, Below.refl _ _⟩
        · have HR := Lib.hid hr
          clear hr
          go_wp2_with fail
          refine (s_l01Dec (-a) _ HGN.out.1 HGN.out.2).mono ?_
          rintro e w3 ⟨rfl, b3⟩
          have HB3 := Lib.hid b3
          clear b3
          by_cases htx : decS (-a) = s
          · have HV := Lib.hid (vl_yes (s := s) HSZ.out (by rw [← HN.out]; exact HR.out) (by rw [← HN.out]; exact htx))
            rw [htx]
            have heq : (s.toList == s.toList) = true := by simp
            go_wp2
            go_ret2
            exact ⟨by rw [HV.out.1, HV.out.2, ← HN.out]; rfl, HB3.out⟩
          · have HV := Lib.hid (vl_text (s := s) (by rw [← HN.out]; exact htx))
            have hne := str_ne htx
            go_wp2
            go_ret2
            exact ⟨by rw [HV.out.1, HV.out.2]; rfl, HB3.out⟩
      · have hna : n = a := by rw [hn]; unfold svN; rw [HG0.out, if_neg h45, HA2.out]
        have hcb : ((s[0].toNat : Int) == 45) = false := beq_eq_false_iff_ne.2 (fun e => h45 (UInt8.toNat_inj.1 (by have : (45 : UInt8).toNat = 45 := rfl; omega)))
        clear hn hb h45
        subst hna
        go_wp2_with fail
        refine (s_l00In _ _ _ _).mono ?_
        rintro e wf ⟨rfl, hwf⟩
        obtain rfl : w = wf := hwf.symm
        have HRE : Hid (inR n = (decide (-1000000000000000 ≤ n) && decide (n ≤ 1000000000000000))) := Lib.hid rfl
        rw [← HRE.out]
        cases hr : inR n
        · have HV := Lib.hid (vl_range (s := s) (by rw [← HN.out]; exact hr))
          clear hr
          go_wp2
          go_ret2
          exact ⟨by rw [HV.out.1, HV.out.2]; rfl, Below.refl _ _⟩
        · have HR := Lib.hid hr
          clear hr
          go_wp2_with fail
          refine (s_l01Dec n _ HGN.out.1 HGN.out.2).mono ?_
          rintro e w3 ⟨rfl, b3⟩
          have HB3 := Lib.hid b3
          clear b3
          by_cases htx : decS n = s
          · have HV := Lib.hid (vl_yes (s := s) HSZ.out (by rw [← HN.out]; exact HR.out) (by rw [← HN.out]; exact htx))
            rw [htx]
            have heq : (s.toList == s.toList) = true := by simp
            go_wp2
            go_ret2
            exact ⟨by rw [HV.out.1, HV.out.2, ← HN.out]; rfl, HB3.out⟩
          · have HV := Lib.hid (vl_text (s := s) (by rw [← HN.out]; exact htx))
            have hne := str_ne htx
            go_wp2
            go_ret2
            exact ⟨by rw [HV.out.1, HV.out.2]; rfl, HB3.out⟩
end Go.Proofs.YtknabmknboffgaaGreatDoor
