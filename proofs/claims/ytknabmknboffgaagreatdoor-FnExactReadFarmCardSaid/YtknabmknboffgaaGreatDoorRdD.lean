/- A whole number out of a text: both sides. No statement is proved here. -/
import Derived.Test.YtknabmknboffgaaGreatDoorDec
import Derived.Test.YtknabmknboffgaaGreatDoorInR
import Derived.Test.YtknabmknboffgaaGreatDoorRdN
import Derived.Lib.ParseIntB
namespace Go.Proofs.YtknabmknboffgaaGreatDoor
open Go Go.RowKit
/-- what digits tell, from the left -/
def dv (l : List UInt8) (acc : Nat) : Nat := l.foldl (fun a c => 10 * a + (c.toNat - 48)) acc
def digs (l : List UInt8) : Prop := ∀ c ∈ l, 48 ≤ c.toNat ∧ c.toNat ≤ 57
theorem dv_ge : ∀ (l : List UInt8) (acc : Nat), acc ≤ dv l acc
  | [], acc => Nat.le_refl _
  | c :: l, acc => by
    have := dv_ge l (10 * acc + (c.toNat - 48))
    show acc ≤ dv l (10 * acc + (c.toNat - 48))
    omega
theorem dv_snoc (l : List UInt8) (c : UInt8) (acc : Nat) : dv (l ++ [c]) acc = 10 * dv l acc + (c.toNat - 48) := by simp [dv]
theorem dig_toNat {d : Nat} (h : d < 10) : (UInt8.ofNat (48 + d)).toNat = 48 + d := by
  rw [UInt8.toNat_ofNat']
  omega
theorem decDigits_facts : ∀ (n u : Nat), u ≤ n → digs (Lib.decDigits u) ∧ dv (Lib.decDigits u) 0 = u := by
  intro n
  induction n with
  | zero =>
    intro u hu
    have : u = 0 := by omega
    subst this
    rw [Lib.decDigits, dif_pos (by decide)]
    exact ⟨by intro c hc; simp at hc; subst hc; decide, by decide⟩
  | succ n ih =>
    intro u hu
    by_cases h : u < 10
    · rw [Lib.decDigits, dif_pos h]
      refine ⟨?_, ?_⟩
      · intro c hc
        rw [List.mem_singleton] at hc
        subst hc
        rw [dig_toNat h]
        omega
      · show 10 * 0 + ((UInt8.ofNat (48 + u)).toNat - 48) = u
        rw [dig_toNat h]; omega
    · rw [Lib.decDigits, dif_neg h]
      obtain ⟨h1, h2⟩ := ih (u / 10) (by omega)
      refine ⟨?_, ?_⟩
      · intro c hc
        rcases List.mem_append.1 hc with hc | hc
        · exact h1 c hc
        · rw [List.mem_singleton] at hc
          subst hc
          rw [dig_toNat (Nat.mod_lt _ (by decide))]
          omega
      · rw [dv_snoc, h2, dig_toNat (Nat.mod_lt _ (by decide))]
        omega
theorem parseUintM_ok (M : Nat) (hM : 1000000000000000 ≤ M) : ∀ (l : List UInt8) (acc : Nat), digs l → dv l acc ≤ 1000000000000000 → Lib.parseUintM M acc l = .ok (dv l acc)
  | [], acc, _, _ => rfl
  | c :: l, acc, hd, hv => by
    have hc := hd c (List.mem_cons_self ..)
    have hv' : dv l (10 * acc + (c.toNat - 48)) ≤ 1000000000000000 := hv
    have hg := dv_ge l (10 * acc + (c.toNat - 48))
    have ih := parseUintM_ok M hM l (10 * acc + (c.toNat - 48)) (fun x hx => hd x (List.mem_cons_of_mem _ hx)) hv'
    show (if 48 ≤ c.toNat ∧ c.toNat ≤ 57 then _ else _) = _
    rw [if_pos hc, if_neg (by omega), if_neg (by omega), show acc * 10 + (c.toNat - 48) = 10 * acc + (c.toNat - 48) by omega, ih]
    rfl
theorem decDigits_ne (u : Nat) : ∃ c r, Lib.decDigits u = c :: r ∧ 48 ≤ c.toNat ∧ c.toNat ≤ 57 := by
  have h1 := (decDigits_facts u u (Nat.le_refl _)).1
  have hl : 1 ≤ (Lib.decDigits u).length := by rw [Lib.decDigits_length]; exact Lib.nDigits_pos u
  cases e : Lib.decDigits u with
  | nil => rw [e] at hl; simp at hl
  | cons c r => exact ⟨c, r, rfl, h1 c (by rw [e]; exact List.mem_cons_self ..)⟩
theorem parse_itoa {n : Int} (h : inR n = true) : Lib.parseIntB 64 (decS n).data.toList = .ok n := by
  obtain ⟨h0, h1⟩ := inR_bd h
  show Lib.parseIntB 64 (Lib.itoa n) = .ok n
  unfold Lib.itoa
  by_cases hn : n < 0
  · rw [if_pos hn]
    obtain ⟨hd, hv⟩ := decDigits_facts n.natAbs n.natAbs (Nat.le_refl _)
    have hp := parseUintM_ok (2 ^ 64 - 1) (by decide) (Lib.decDigits n.natAbs) 0 hd (by rw [hv]; omega)
    obtain ⟨c, r, e, -⟩ := decDigits_ne n.natAbs
    unfold Lib.parseIntB Lib.parseUintB
    simp only [show (45 : UInt8).toNat = 45 from rfl, or_true, if_true]
    rw [if_neg (by rw [e]; simp), hp, hv]
    have e63 : (2 : Nat) ^ (64 - 1) = 9223372036854775808 := by decide
    simp only [not_true, false_and, if_false, true_and, e63]
    rw [if_neg (by omega)]
    congr 1
    omega
  · rw [if_neg hn]
    obtain ⟨hd, hv⟩ := decDigits_facts n.toNat n.toNat (Nat.le_refl _)
    have hp := parseUintM_ok (2 ^ 64 - 1) (by decide) (Lib.decDigits n.toNat) 0 hd (by rw [hv]; omega)
    obtain ⟨c, r, e, hc0, hc1⟩ := decDigits_ne n.toNat
    rw [e] at hp hv ⊢
    unfold Lib.parseIntB Lib.parseUintB
    have n43 : ¬ (c.toNat = 43 ∨ c.toNat = 45) := by omega
    have n45 : ¬ c.toNat = 45 := by omega
    simp only [if_neg n43]
    rw [if_neg (by simp), hp, hv]
    have e63 : (2 : Nat) ^ (64 - 1) = 9223372036854775808 := by decide
    simp only [n45, not_false_iff, true_and, e63, false_and, if_false]
    rw [if_neg (by omega)]
    congr 1
    omega
theorem decS_size {n : Int} (h : inR n = true) : 1 ≤ (decS n).size ∧ (decS n).size ≤ 17 := by
  obtain ⟨h0, h1⟩ := inR_bd h
  have key : ∀ u : Nat, u ≤ 1000000000000000 → Lib.nDigits u ≤ 16 := by
    intro u hu
    rcases Nat.lt_or_ge 16 (Lib.nDigits u) with h2 | h2
    · rcases nDigits_le h2 with h3 | h3
      · omega
      · have : (10 : Nat) ^ 16 = 10000000000000000 := by decide
        omega
    · exact h2
  show 1 ≤ (Lib.itoa n).toArray.size ∧ (Lib.itoa n).toArray.size ≤ 17
  rw [List.size_toArray]
  unfold Lib.itoa
  split
  · rw [List.length_cons, Lib.decDigits_length]; have := key n.natAbs (by omega); omega
  · rw [Lib.decDigits_length]; have := key n.toNat (by omega); have := Lib.nDigits_pos n.toNat; omega
/-- whether a text is one of a number, and of which -/
def DcN (s : ByteArray) (n : Int) : Prop := inR n = true ∧ decS n = s
set_option maxHeartbeats 4000000 in
theorem i_ReadDecimal_yes (s : ByteArray) (n : Int) (w : World) (hs : s.size ≤ 1048576) (h : DcN s n) (hT : T10 w) :
    Calls Tryz.prog 63 #[.string s] w fun e w' => e = .returned (.tuple #[.int .i64 n, .bool true]) ∧ Below w.heap.size w w' := by
  obtain ⟨h1, h2⟩ := h
  obtain ⟨g0, g1⟩ := inR_bd h1
  have HP := Lib.hid (Tryz.strconv_ParseInt_10_at64_ok s (by omega) n (by rw [← h2]; exact parse_itoa h1) w)
  have HT := Lib.hid hT
  have HV := Lib.hid (fun w' => i_isValue n w')
  rw [h1] at HV
  have H2 := Lib.hid h2
  have HG := Lib.hid (show -9223372036854775808 ≤ n ∧ n ≤ 9223372036854775807 from ⟨by omega, by omega⟩)
  have heq : (s.toList == s.toList) = true := by simp
  clear h1 h2 hT hs g0 g1
  go_enter Tryz.func63, Tryz.ntmps63
  go_wp2_with fail
  refine HP.out.mono ?_
  rintro e w1 ⟨rfl, hw1⟩
  have HB : Hid (Below w.heap.size w w1) := Lib.hid (by
    rcases hw1 with rfl | ⟨t, rfl⟩
    · exact Below.refl _ _
    · exact Lib.bytesWorld_below ..)
  have HT1 := Lib.hid (HT.out.below HB.out)
  clear hw1 HP
  go_wp2_with fail
  refine (HV.out _).mono ?_
  rintro e w2 ⟨rfl, hw⟩
  obtain rfl : w1 = w2 := hw.symm
  go_wp2_with fail
  refine (i_Decimal n _ HG.out.1 HG.out.2 HT1.out).mono ?_
  rintro e w3 ⟨rfl, b3⟩
  rw [H2.out]
  have HB3 : Hid (Below w.heap.size w w3) := Lib.hid (below_of HB.out HB.out.size b3)
  clear b3
  go_wp2
  go_ret2
  exact ⟨rfl, HB3.out⟩
set_option maxHeartbeats 4000000 in
theorem i_ReadDecimal_no (s : ByteArray) (w : World) (hs : s.size ≤ 1048576) (h : ∀ n, ¬ DcN s n) (hT : T10 w) (hE : EV w) :
    Calls Tryz.prog 63 #[.string s] w fun e w' => e = .returned (.tuple #[.int .i64 0, .bool false]) ∧ Below w.heap.size w w' := by
  have HT := Lib.hid hT
  have HH := Lib.hid h
  cases hp : Lib.parseIntB 64 s.data.toList with
  | «syntax» =>
    obtain ⟨ev, g1, g2⟩ := hE.1
    have HP := Lib.hid (Tryz.strconv_ParseInt_10_at64_syntax s (by omega) hp ev w g1 g2)
    clear hT hE h hs hp g1 g2
    go_enter Tryz.func63, Tryz.ntmps63
    go_wp2_with fail
    refine HP.out.mono ?_
    rintro e w1 ⟨N, rfl, -, -, b1⟩
    go_wp2
    go_ret2
    exact ⟨rfl, b1⟩
  | range =>
    obtain ⟨ev, g1, g2⟩ := hE.2
    have HP := Lib.hid (Tryz.strconv_ParseInt_10_at64_range s (by omega) hp ev w g1 g2)
    clear hT hE h hs hp g1 g2
    generalize Lib.intSat 64 s.data.toList = sat at HP
    go_enter Tryz.func63, Tryz.ntmps63
    go_wp2_with fail
    refine HP.out.mono ?_
    rintro e w1 ⟨N, rfl, -, -, b1⟩
    go_wp2
    go_ret2
    exact ⟨rfl, b1⟩
  | ok v =>
    have HP := Lib.hid (Tryz.strconv_ParseInt_10_at64_ok s (by omega) v hp w)
    have HV := Lib.hid (fun w' => i_isValue v w')
    clear hT hE h hs hp
    cases hr : inR v
    · rw [hr] at HV
      clear hr
      go_enter Tryz.func63, Tryz.ntmps63
      go_wp2_with fail
      refine HP.out.mono ?_
      rintro e w1 ⟨rfl, hw1⟩
      have HB : Hid (Below w.heap.size w w1) := Lib.hid (by
        rcases hw1 with rfl | ⟨t, rfl⟩
        · exact Below.refl _ _
        · exact Lib.bytesWorld_below ..)
      clear hw1 HP
      go_wp2_with fail
      refine (HV.out _).mono ?_
      rintro e w2 ⟨rfl, hw⟩
      obtain rfl : w1 = w2 := hw.symm
      go_wp2
      go_ret2
      exact ⟨rfl, HB.out⟩
    · obtain ⟨g0, g1⟩ := inR_bd hr
      have HG := Lib.hid (show -9223372036854775808 ≤ v ∧ v ≤ 9223372036854775807 from ⟨by omega, by omega⟩)
      have HNE : Hid (((decS v).toList == s.toList) = false) := Lib.hid (str_ne (fun e => HH.out v ⟨hr, e⟩))
      rw [hr] at HV
      clear hr g0 g1
      go_enter Tryz.func63, Tryz.ntmps63
      go_wp2_with fail
      refine HP.out.mono ?_
      rintro e w1 ⟨rfl, hw1⟩
      have HB : Hid (Below w.heap.size w w1) := Lib.hid (by
        rcases hw1 with rfl | ⟨t, rfl⟩
        · exact Below.refl _ _
        · exact Lib.bytesWorld_below ..)
      have HT1 := Lib.hid (HT.out.below HB.out)
      clear hw1 HP
      go_wp2_with fail
      refine (HV.out _).mono ?_
      rintro e w2 ⟨rfl, hw⟩
      obtain rfl : w1 = w2 := hw.symm
      go_wp2_with fail
      refine (i_Decimal v _ HG.out.1 HG.out.2 HT1.out).mono ?_
      rintro e w3 ⟨rfl, b3⟩
      have HB3 : Hid (Below w.heap.size w w3) := Lib.hid (below_of HB.out HB.out.size b3)
      have hne := HNE.out
      clear b3
      go_wp2
      go_ret2
      exact ⟨rfl, HB3.out⟩
end Go.Proofs.YtknabmknboffgaaGreatDoor
