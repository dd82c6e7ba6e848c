/- Decimal, both sides. No statement is proved here. -/
import Derived.Test.YtknabmknboffgaaDoorByt
import Derived.Test.YtknabmknboffgaaDoorShelf
import Derived.Test.YtknabmknboffgaaDoorTbt
import Derived.DataShut
namespace Go.Proofs.YtknabmknboffgaaDoor
open Go Go.RowKit
theorem wf_i64 {n : Int} (h : (Lit.int .i64 n).wf = true) : -9223372036854775808 ≤ n ∧ n ≤ 9223372036854775807 := by
  have h2 := (Lit.wf_int_iff .i64 n).1 h
  have e1 : IntKind.i64.min = -9223372036854775808 := by decide
  have e2 : IntKind.i64.max = 9223372036854775807 := by decide
  rw [e1, e2] at h2
  exact h2
/-- the text of a whole number -/
def decS (n : Int) : ByteArray := ⟨(Lib.itoa n).toArray⟩
/-- so many decimal digits -/
def decN : Nat → Nat → List UInt8
  | 0, _ => []
  | k + 1, u => UInt8.ofNat (48 + u / 10 ^ k % 10) :: decN k u
theorem addr_add' (b o j : Nat) : Addr.add ⟨b, o, none⟩ j = ⟨b, o + j, none⟩ := by
  unfold Addr.add
  split
  · rename_i h; subst h; rfl
  · rfl
theorem decN_length (k u : Nat) : (decN k u).length = k := by
  induction k with
  | zero => rfl
  | succ k ih => simp [decN, ih]
theorem decN_eq (k u : Nat) : decN k u = (List.range k).map fun t => Lib.dg u (k - 1 - t) := by
  induction k with
  | zero => rfl
  | succ k ih =>
    rw [decN, ih, List.range_succ_eq_map, List.map_cons, List.map_map]
    congr 1
    apply List.map_congr_left
    intro t ht
    have := List.mem_range.1 ht
    simp only [Function.comp_apply]
    congr 1
    omega
theorem decN_full (u : Nat) : decN (Lib.nDigits u) u = Lib.decDigits u := by rw [decN_eq, Lib.decDigits_eq]
theorem nDigits_le {k u : Nat} (h : k < Lib.nDigits u) : k = 0 ∨ 10 ^ k ≤ u := by
  rcases Nat.eq_zero_or_pos k with h0 | h0
  · exact .inl h0
  · right
    rcases Nat.lt_or_ge u (10 ^ k) with h1 | h1
    · exfalso
      obtain ⟨j, rfl⟩ : ∃ j, k = j + 1 := ⟨k - 1, by omega⟩
      have h2 : ∀ (j u : Nat), u < 10 ^ (j + 1) → Lib.nDigits u ≤ j + 1 := by
        intro j
        induction j with
        | zero => intro u hu; rw [Lib.nDigits_small (by simpa using hu)]; exact Nat.le_refl _
        | succ j ih =>
          intro u hu
          by_cases h : u < 10
          · rw [Lib.nDigits_small h]; omega
          · rw [Lib.nDigits_big h]
            have := ih (u / 10) (by rw [Nat.pow_succ] at hu; omega)
            omega
      have := h2 j u h1
      omega
    · exact h1
theorem nDigits_bd (u : Nat) (h : u < 18446744073709551616) : Lib.nDigits u ≤ 20 := by
  rcases Nat.lt_or_ge 20 (Lib.nDigits u) with h1 | h1
  · rcases nDigits_le h1 with h2 | h2
    · omega
    · omega
  · exact h1
theorem itoa_size (n : Int) (h0 : -9223372036854775808 ≤ n) (h1 : n ≤ 9223372036854775807) : (decS n).size ≤ 21 := by
  show (Lib.itoa n).toArray.size ≤ 21
  rw [List.size_toArray]
  unfold Lib.itoa
  split
  · rw [List.length_cons, Lib.decDigits_length]; have := nDigits_bd n.natAbs (by omega); omega
  · rw [Lib.decDigits_length]; have := nDigits_bd n.toNat (by omega); omega
theorem i_Decimal (n : Int) (w : World) (h0 : -9223372036854775808 ≤ n) (h1 : n ≤ 9223372036854775807) (hT : T10 w) :
    Calls Tryd.prog 38 #[.int .i64 n] w fun e w' => e = .returned (.string (decS n)) ∧ Below w.heap.size w w' := by
  have HC := Lib.hid (Tryd.strconv_FormatInt_10 n h0 h1 w hT)
  clear hT
  go_enter Tryd.func38, Tryd.ntmps38
  go_wp2_with fail
  refine HC.out.mono ?_
  rintro e w' ⟨rfl, k, os, hg⟩
  have HB : Hid (Below w.heap.size w w') := Lib.hid (by rw [hg]; exact below_grow' w k os)
  clear hg
  go_wp2
  go_ret
  exact ⟨rfl, HB.out⟩
theorem ownU_one (w : World) (B0 : Nat) (c : UInt8) (hb : B0 ≤ w.heap.size) : GrU (w.alloc (.cells #[u8v c] 5)) B0 (.slice (some ⟨w.heap.size, 0, none⟩) 1 1) [c] := by
  refine ⟨by simp, .inr ⟨w.heap.size, 1, #[u8v c], rfl, hb, by show (w.heap.push _)[w.heap.size]? = _; simp, by simp, by unfold maxLen; omega, rfl, rfl⟩⟩
/-- where a list of bytes lies -/
theorem GrU.some' {w : World} {B0 : Nat} {v : Value} {xs : List UInt8} (h : GrU w B0 v xs) (h0 : xs ≠ []) : ∃ b cap, v = .slice (some ⟨b, 0, none⟩) xs.length cap := by
  rcases h.2 with ⟨rfl, h1⟩ | ⟨g, cap, cur, rfl, hbg, hgg, hnc, hcm, hcs, htake⟩
  · exact absurd (List.eq_nil_of_length_eq_zero h1) h0
  · exact ⟨g, cap, rfl⟩
theorem GrU.cells {w : World} {B0 b n cap : Nat} {xs : List UInt8} (h : GrU w B0 (.slice (some ⟨b, 0, none⟩) n cap) xs) : n = xs.length ∧ b < w.heap.size ∧ ∀ j u, (xs.map u8v)[j]? = some u → w.cell? (Addr.add ⟨b, 0, none⟩ j) = some u := by
  rcases h.2 with ⟨h2, h1⟩ | ⟨g, cap', cur, h2, hbg, hgg, hnc, hcm, hcs, htake⟩
  · cases h2
  · cases h2
    refine ⟨rfl, (Array.getElem?_eq_some_iff.1 hgg).1, fun j u hj => ?_⟩
    have hj' : j < xs.length := by have := (List.getElem?_eq_some_iff.1 hj).1; simpa using this
    rw [addr_add', Nat.zero_add, cell_of_row w b j cur 5 (0, 0) hgg]
    have h1 : cur.toList[j]? = some u := by
      have h2 : (cur.toList.take (xs.length * 1))[j]? = (xs.map u8v)[j]? := by rw [htake]
      rw [List.getElem?_take, if_pos (by omega)] at h2
      rw [h2, hj]
    simpa using h1
theorem GrU.pre {w0 wr w1 : World} {B0 : Nat} {c : UInt8} {v' : Value} {xs : List UInt8} (hb : Below w0.heap.size w0 wr) (hB : B0 = w0.heap.size)
    (ho : w1.ownsRow B0 5 1 v' (1 + xs.length) ([u8v c] ++ xs.map u8v)) (hg : (wr.alloc (.cells #[u8v c] 5)).grownBy w1 (Value.slice (some ⟨wr.heap.size, 0, none⟩) 1 1).ownBlock) : GrU w1 B0 v' (c :: xs) ∧ Below w0.heap.size w0 w1 := by
  subst hB
  refine ⟨by unfold GrU; simpa [Nat.add_comm] using ho, ?_⟩
  have hlt := World.ownsRow.lt (ownU_one wr w0.heap.size c hb.size)
  exact (hb.alloc hb.size _).grown hg (by have := hb.size; simp; omega) (fun k hk => by have := (hlt k hk).1; omega)
theorem dig_u8 (d : Nat) (h : d < 10) : (48 + (d : Int)) = ((UInt8.ofNat (48 + d)).toNat : Int) := by
  rw [UInt8.toNat_ofNat']
  omega
set_option maxHeartbeats 4000000 in
set_option maxRecDepth 100000 in
theorem s_l01Dec (n : Int) (w : World) (h0 : -9223372036854775808 ≤ n) (h1 : n ≤ 9223372036854775807) :
    Calls Tryd.prog 36 #[.int .i64 n] w fun e w' => e = .returned (.string (decS n)) ∧ Below w.heap.size w w' := by
  obtain ⟨i0, hi, hz0, hz1, hz2⟩ := info_parts u8_info
  have HI := Lib.hid hi
  have HZ0 := Lib.hid hz0
  have HZ1 := Lib.hid hz1
  have HZ2 := Lib.hid hz2
  clear hi hz0 hz1 hz2
  have HST : Hid (GrU (w.alloc (.cells #[] 5)) w.heap.size (.slice (some ⟨w.heap.size, 0, none⟩) 0 0) []) := Lib.hid (GrU.made _ _ 0 #[] (Nat.le_refl _) (by unfold maxLen; omega) rfl)
  have HB0 : Hid (Below w.heap.size w (w.alloc (.cells #[] 5))) := Lib.hid ((Below.refl _ _).alloc (Nat.le_refl _) _)
  obtain ⟨u, hu⟩ : ∃ u, u = n.natAbs := ⟨_, rfl⟩
  have hu64 : u ≤ 9223372036854775808 := by omega
  have HND := Lib.hid (nDigits_bd u (by omega))
  have HSN : Hid (n < 0 → decS n = ⟨(45 :: decN (Lib.nDigits u) u).toArray⟩) := Lib.hid (fun h => by unfold decS Lib.itoa; rw [if_pos h, decN_full, hu])
  have HSP : Hid (¬ n < 0 → decS n = ⟨(decN (Lib.nDigits u) u).toArray⟩) := Lib.hid (fun h => by unfold decS Lib.itoa; rw [if_neg h, decN_full, hu, show n.natAbs = n.toNat by omega])
  generalize decS n = res at HSN HSP ⊢
  by_cases hneg : n < 0
  · have hn : n = -(u : Int) := by omega
    have hupos : 1 ≤ u := by omega
    have HSN2 := Lib.hid (HSN.out hneg)
    clear HSN HSP
    clear hu hneg
    subst hn
    go_enter Tryd.func36, Tryd.ntmps36
    go_wp2_with fail
    go_loopw [3, 4] (fun v r wr => ∃ (k g cap q : Nat), k ≤ Lib.nDigits u ∧ v = .slice (some ⟨g, 0, none⟩) k cap ∧ q ≤ u ∧ Hid (q = u / 10 ^ k) ∧ r = .int .i64 (-(q : Int)) ∧ Hid (GrU wr w.heap.size v (decN k u)) ∧ Hid (Below w.heap.size w wr)) (fun v _ _ => Lib.nDigits u - (match v with | .slice _ k _ => k | _ => 0))
    case atStart => exact ⟨0, _, _, u, Nat.zero_le _, rfl, Nat.le_refl _, Lib.hid (by simp), rfl, HST, HB0⟩
    case round =>
      obtain ⟨k, g, cap, q, hk, rfl, hq, HQ, rfl, HG, HB⟩ := hrel
      by_cases hlt : k < Lib.nDigits u
      · have hcl : k = 0 ∨ 1 ≤ q := by
          rcases nDigits_le hlt with h | h
          · exact .inl h
          · right; rw [HQ.out]; exact Nat.div_pos h (Nat.pow_pos (by decide))
        have hd := dig_u8 (q % 10) (Nat.mod_lt _ (by decide))
        have HQ2 : Hid (q / 10 = u / 10 ^ (k + 1)) := Lib.hid (by rw [HQ.out, Nat.div_div_eq_div_mul, Nat.pow_succ])
        have HDN : Hid (decN (k + 1) u = UInt8.ofNat (48 + q % 10) :: decN k u) := Lib.hid (by rw [HQ.out]; rfl)
        have hq10 : q / 10 ≤ u := Nat.le_trans (Nat.div_le_self _ _) hq
        obtain ⟨cc, hcc⟩ : ∃ c, c = UInt8.ofNat (48 + q % 10) := ⟨_, rfl⟩
        rw [← hcc] at hd HDN
        clear hcc
        have e1 : (-(q : Int)).tmod 10 = -((q % 10 : Nat) : Int) := by rw [Int.neg_tmod]; rfl
        have e2 : (-(q : Int)).tdiv 10 = -((q / 10 : Nat) : Int) := by rw [Int.neg_tdiv]; rfl
        have e3 : -((q % 10 : Nat) : Int) < 0 ∨ q % 10 = 0 := by omega
        generalize hd10 : q % 10 = d at hd e1 e3
        have hd9 : d < 10 := by omega
        have hc : Hid (48 + (d : Int) = (cc.toNat : Int)) := Lib.hid hd
        by_cases hk0 : k = 0
        · subst hk0
          rcases e3 with e3 | e3
          · have hc : Hid ((cc.toNat : Int) = (cc.toNat : Int)) := Lib.hid rfl
            have HO : Hid ((wr.alloc (.cells #[.int .u8 ((cc.toNat : Int))] 5)).ownsRow w.heap.size 5 1 (.slice (some ⟨wr.heap.size, 0, none⟩) 1 1) 1 [.int .u8 ((cc.toNat : Int))]) := Lib.hid (by rw [hc.out]; exact ownU_one wr w.heap.size cc HB.out.size)
            have HCL : Hid (∀ j z, ((decN 0 u).map u8v)[j]? = some z → (wr.alloc (.cells #[.int .u8 ((cc.toNat : Int))] 5)).cell? (Addr.add ⟨g, 0, none⟩ j) = some z) := Lib.hid (fun j z hj => by
              obtain ⟨-, hlt, hcells⟩ := GrU.cells HG.out
              rw [addr_add', World.cell?_alloc_old (h := Nat.ne_of_lt hlt), ← addr_add']
              exact hcells j z hj)
            go_wp2_with (first
              | (at_builtin; refine wpList_append_own _ rfl _ _ 39 rfl w.heap.size 5 i0 (.int .u8 0) 1 1 Tryd.underlying39 HI.out HZ0.out HZ1.out HZ2.out rfl (by decide) _ _ _ rfl HO.out ⟨g, 0, none⟩ 0 cap ((decN 0 u).map u8v) rfl (by rw [List.length_map, decN_length, Nat.mul_one]) HCL.out ?_ ?_ ?_ ?_ ?_)
              | fail)
            try any_goals (intro zz hzz; obtain ⟨y, -, rfl⟩ := List.mem_map.1 hzz; rfl)
            try any_goals (intro zz hzz; cases hzz; done)
            try any_goals (intro zz hzz; rfl)
            try any_goals (have := HND.out; unfold maxLen; omega)
            try any_goals (have := HND.out; omega)
            try any_goals (have := HB.out.size; simp; omega)
            intro v' w9 hown' hgrow hnil
            have hc9 := hc.out
            have hown2 : w9.ownsRow w.heap.size 5 1 v' (1 + (decN 0 u).length) ([u8v cc] ++ (decN 0 u).map u8v) := by rw [decN_length]; show w9.ownsRow _ _ _ _ _ ([.int .u8 (cc.toNat : Int)] ++ _); first | exact hown' | (rw [← hc9]; exact hown')
            obtain ⟨g2, b2⟩ := GrU.pre HB.out rfl hown2 (by show (wr.alloc (.cells #[.int .u8 (cc.toNat : Int)] _)).grownBy _ _; first | exact hgrow | (rw [← hc9]; exact hgrow))
            rw [← HDN.out] at g2
            obtain ⟨g', cap', rfl⟩ := GrU.some' g2 (by intro e; have := congrArg List.length e; simp [decN_length] at this)
            rw [decN_length] at *
            have HG9 := Lib.hid g2
            have HB9 := Lib.hid b2
            clear g2 b2 hown2 hown' hgrow hnil hc9 HCL HO
            go_wp2
            go_roundw
            case rel => exact ⟨0 + 1, g', cap', q / 10, by omega, rfl, hq10, HQ2, by go_num, HG9, HB9⟩
            case measure => simp; omega
          · subst e3
            have hc : Hid ((48 : Int) = (cc.toNat : Int)) := Lib.hid (by have := hc.out; simpa using this)
            have HO : Hid ((wr.alloc (.cells #[.int .u8 (48)] 5)).ownsRow w.heap.size 5 1 (.slice (some ⟨wr.heap.size, 0, none⟩) 1 1) 1 [.int .u8 (48)]) := Lib.hid (by rw [hc.out]; exact ownU_one wr w.heap.size cc HB.out.size)
            have HCL : Hid (∀ j z, ((decN 0 u).map u8v)[j]? = some z → (wr.alloc (.cells #[.int .u8 (48)] 5)).cell? (Addr.add ⟨g, 0, none⟩ j) = some z) := Lib.hid (fun j z hj => by
              obtain ⟨-, hlt, hcells⟩ := GrU.cells HG.out
              rw [addr_add', World.cell?_alloc_old (h := Nat.ne_of_lt hlt), ← addr_add']
              exact hcells j z hj)
            go_wp2_with (first
              | (at_builtin; refine wpList_append_own _ rfl _ _ 39 rfl w.heap.size 5 i0 (.int .u8 0) 1 1 Tryd.underlying39 HI.out HZ0.out HZ1.out HZ2.out rfl (by decide) _ _ _ rfl HO.out ⟨g, 0, none⟩ 0 cap ((decN 0 u).map u8v) rfl (by rw [List.length_map, decN_length, Nat.mul_one]) HCL.out ?_ ?_ ?_ ?_ ?_)
              | fail)
            try any_goals (intro zz hzz; obtain ⟨y, -, rfl⟩ := List.mem_map.1 hzz; rfl)
            try any_goals (intro zz hzz; cases hzz; done)
            try any_goals (intro zz hzz; rfl)
            try any_goals (have := HND.out; unfold maxLen; omega)
            try any_goals (have := HND.out; omega)
            try any_goals (have := HB.out.size; simp; omega)
            intro v' w9 hown' hgrow hnil
            have hc9 := hc.out
            have hown2 : w9.ownsRow w.heap.size 5 1 v' (1 + (decN 0 u).length) ([u8v cc] ++ (decN 0 u).map u8v) := by rw [decN_length]; show w9.ownsRow _ _ _ _ _ ([.int .u8 (cc.toNat : Int)] ++ _); first | exact hown' | (rw [← hc9]; exact hown')
            obtain ⟨g2, b2⟩ := GrU.pre HB.out rfl hown2 (by show (wr.alloc (.cells #[.int .u8 (cc.toNat : Int)] _)).grownBy _ _; first | exact hgrow | (rw [← hc9]; exact hgrow))
            rw [← HDN.out] at g2
            obtain ⟨g', cap', rfl⟩ := GrU.some' g2 (by intro e; have := congrArg List.length e; simp [decN_length] at this)
            rw [decN_length] at *
            have HG9 := Lib.hid g2
            have HB9 := Lib.hid b2
            clear g2 b2 hown2 hown' hgrow hnil hc9 HCL HO
            go_wp2
            go_roundw
            case rel => exact ⟨0 + 1, g', cap', q / 10, by omega, rfl, hq10, HQ2, by go_num, HG9, HB9⟩
            case measure => simp; omega
        · have hz : ((k : Int) == 0) = false := by simp; omega
          have hq1 : 1 ≤ q := by omega
          have hz2 : ((-(q : Int)) != 0) = true := by simp; omega
          rcases e3 with e3 | e3
          · have hc : Hid ((cc.toNat : Int) = (cc.toNat : Int)) := Lib.hid rfl
            have HO : Hid ((wr.alloc (.cells #[.int .u8 ((cc.toNat : Int))] 5)).ownsRow w.heap.size 5 1 (.slice (some ⟨wr.heap.size, 0, none⟩) 1 1) 1 [.int .u8 ((cc.toNat : Int))]) := Lib.hid (by rw [hc.out]; exact ownU_one wr w.heap.size cc HB.out.size)
            have HCL : Hid (∀ j z, ((decN k u).map u8v)[j]? = some z → (wr.alloc (.cells #[.int .u8 ((cc.toNat : Int))] 5)).cell? (Addr.add ⟨g, 0, none⟩ j) = some z) := Lib.hid (fun j z hj => by
              obtain ⟨-, hlt, hcells⟩ := GrU.cells HG.out
              rw [addr_add', World.cell?_alloc_old (h := Nat.ne_of_lt hlt), ← addr_add']
              exact hcells j z hj)
            go_wp2_with (first
              | (at_builtin; refine wpList_append_own _ rfl _ _ 39 rfl w.heap.size 5 i0 (.int .u8 0) 1 1 Tryd.underlying39 HI.out HZ0.out HZ1.out HZ2.out rfl (by decide) _ _ _ rfl HO.out ⟨g, 0, none⟩ k cap ((decN k u).map u8v) rfl (by rw [List.length_map, decN_length, Nat.mul_one]) HCL.out ?_ ?_ ?_ ?_ ?_)
              | fail)
            try any_goals (intro zz hzz; obtain ⟨y, -, rfl⟩ := List.mem_map.1 hzz; rfl)
            try any_goals (intro zz hzz; cases hzz; done)
            try any_goals (intro zz hzz; rfl)
            try any_goals (have := HND.out; unfold maxLen; omega)
            try any_goals (have := HND.out; omega)
            try any_goals (have := HB.out.size; simp; omega)
            intro v' w9 hown' hgrow hnil
            have hc9 := hc.out
            have hown2 : w9.ownsRow w.heap.size 5 1 v' (1 + (decN k u).length) ([u8v cc] ++ (decN k u).map u8v) := by rw [decN_length]; show w9.ownsRow _ _ _ _ _ ([.int .u8 (cc.toNat : Int)] ++ _); first | exact hown' | (rw [← hc9]; exact hown')
            obtain ⟨g2, b2⟩ := GrU.pre HB.out rfl hown2 (by show (wr.alloc (.cells #[.int .u8 (cc.toNat : Int)] _)).grownBy _ _; first | exact hgrow | (rw [← hc9]; exact hgrow))
            rw [← HDN.out] at g2
            obtain ⟨g', cap', rfl⟩ := GrU.some' g2 (by intro e; have := congrArg List.length e; simp [decN_length] at this)
            rw [decN_length] at *
            have HG9 := Lib.hid g2
            have HB9 := Lib.hid b2
            clear g2 b2 hown2 hown' hgrow hnil hc9 HCL HO
            go_wp2
            go_roundw
            case rel => exact ⟨k + 1, g', cap', q / 10, by omega, rfl, hq10, HQ2, by go_num, HG9, HB9⟩
            case measure => simp; omega
          · subst e3
            have hc : Hid ((48 : Int) = (cc.toNat : Int)) := Lib.hid (by have := hc.out; simpa using this)
            have HO : Hid ((wr.alloc (.cells #[.int .u8 (48)] 5)).ownsRow w.heap.size 5 1 (.slice (some ⟨wr.heap.size, 0, none⟩) 1 1) 1 [.int .u8 (48)]) := Lib.hid (by rw [hc.out]; exact ownU_one wr w.heap.size cc HB.out.size)
            have HCL : Hid (∀ j z, ((decN k u).map u8v)[j]? = some z → (wr.alloc (.cells #[.int .u8 (48)] 5)).cell? (Addr.add ⟨g, 0, none⟩ j) = some z) := Lib.hid (fun j z hj => by
              obtain ⟨-, hlt, hcells⟩ := GrU.cells HG.out
              rw [addr_add', World.cell?_alloc_old (h := Nat.ne_of_lt hlt), ← addr_add']
              exact hcells j z hj)
            go_wp2_with (first
              | (at_builtin; refine wpList_append_own _ rfl _ _ 39 rfl w.heap.size 5 i0 (.int .u8 0) 1 1 Tryd.underlying39 HI.out HZ0.out HZ1.out HZ2.out rfl (by decide) _ _ _ rfl HO.out ⟨g, 0, none⟩ k cap ((decN k u).map u8v) rfl (by rw [List.length_map, decN_length, Nat.mul_one]) HCL.out ?_ ?_ ?_ ?_ ?_)
              | fail)
            try any_goals (intro zz hzz; obtain ⟨y, -, rfl⟩ := List.mem_map.1 hzz; rfl)
            try any_goals (intro zz hzz; cases hzz; done)
            try any_goals (intro zz hzz; rfl)
            try any_goals (have := HND.out; unfold maxLen; omega)
            try any_goals (have := HND.out; omega)
            try any_goals (have := HB.out.size; simp; omega)
            intro v' w9 hown' hgrow hnil
            have hc9 := hc.out
            have hown2 : w9.ownsRow w.heap.size 5 1 v' (1 + (decN k u).length) ([u8v cc] ++ (decN k u).map u8v) := by rw [decN_length]; show w9.ownsRow _ _ _ _ _ ([.int .u8 (cc.toNat : Int)] ++ _); first | exact hown' | (rw [← hc9]; exact hown')
            obtain ⟨g2, b2⟩ := GrU.pre HB.out rfl hown2 (by show (wr.alloc (.cells #[.int .u8 (cc.toNat : Int)] _)).grownBy _ _; first | exact hgrow | (rw [← hc9]; exact hgrow))
            rw [← HDN.out] at g2
            obtain ⟨g', cap', rfl⟩ := GrU.some' g2 (by intro e; have := congrArg List.length e; simp [decN_length] at this)
            rw [decN_length] at *
            have HG9 := Lib.hid g2
            have HB9 := Lib.hid b2
            clear g2 b2 hown2 hown' hgrow hnil hc9 HCL HO
            go_wp2
            go_roundw
            case rel => exact ⟨k + 1, g', cap', q / 10, by omega, rfl, hq10, HQ2, by go_num, HG9, HB9⟩
            case measure => simp; omega
      · obtain rfl : k = Lib.nDigits u := by omega
        have hkp := Lib.nDigits_pos u
        have hz : ((Lib.nDigits u : Int) == 0) = false := by simp; omega
        have hq0 : q = 0 := by rw [HQ.out]; exact Nat.div_eq_of_lt (Lib.lt_pow_nDigits u)
        subst hq0
        have hng : decide (-(u : Int) < 0) = true := by simp; omega
        obtain ⟨cc, hcc⟩ : ∃ c : UInt8, c = 45 := ⟨_, rfl⟩
        have hc : Hid ((45 : Int) = (cc.toNat : Int)) := Lib.hid (by rw [hcc]; rfl)
        rw [← hcc] at HSN2
        clear hcc
        generalize hm : Lib.nDigits u = m at *
        have HO : Hid ((wr.alloc (.cells #[.int .u8 (45)] 5)).ownsRow w.heap.size 5 1 (.slice (some ⟨wr.heap.size, 0, none⟩) 1 1) 1 [.int .u8 (45)]) := Lib.hid (by rw [hc.out]; exact ownU_one wr w.heap.size cc HB.out.size)
        have HCL : Hid (∀ j z, ((decN m u).map u8v)[j]? = some z → (wr.alloc (.cells #[.int .u8 (45)] 5)).cell? (Addr.add ⟨g, 0, none⟩ j) = some z) := Lib.hid (fun j z hj => by
          obtain ⟨-, hlt, hcells⟩ := GrU.cells HG.out
          rw [addr_add', World.cell?_alloc_old (h := Nat.ne_of_lt hlt), ← addr_add']
          exact hcells j z hj)
        go_wp2_with (first
          | (at_builtin; refine wpList_append_own _ rfl _ _ 39 rfl w.heap.size 5 i0 (.int .u8 0) 1 1 Tryd.underlying39 HI.out HZ0.out HZ1.out HZ2.out rfl (by decide) _ _ _ rfl HO.out ⟨g, 0, none⟩ m cap ((decN m u).map u8v) rfl (by rw [List.length_map, decN_length, Nat.mul_one]) HCL.out ?_ ?_ ?_ ?_ ?_)
          | fail)
        try any_goals (intro zz hzz; obtain ⟨y, -, rfl⟩ := List.mem_map.1 hzz; rfl)
        try any_goals (intro zz hzz; cases hzz; done)
        try any_goals (intro zz hzz; rfl)
        try any_goals (have := HND.out; unfold maxLen; omega)
        try any_goals (have := HND.out; omega)
        try any_goals (have := HB.out.size; simp; omega)
        intro v' w9 hown' hgrow hnil
        have hc9 := hc.out
        have hown2 : w9.ownsRow w.heap.size 5 1 v' (1 + (decN m u).length) ([u8v cc] ++ (decN m u).map u8v) := by rw [decN_length]; show w9.ownsRow _ _ _ _ _ ([.int .u8 (cc.toNat : Int)] ++ _); first | exact hown' | (rw [← hc9]; exact hown')
        obtain ⟨g2, b2⟩ := GrU.pre HB.out rfl hown2 (by show (wr.alloc (.cells #[.int .u8 (cc.toNat : Int)] _)).grownBy _ _; first | exact hgrow | (rw [← hc9]; exact hgrow))
        have hstr := g2.str
        have HB9 := Lib.hid b2
        rw [← HSN2.out] at hstr
        clear g2 b2 hown2 hown' hgrow hnil hc9 HCL HO
        go_wp2
        go_ret
        exact ⟨rfl, HB9.out⟩
  · have hn : n = (u : Int) := by omega
    have hu2 : u ≤ 9223372036854775807 := by omega
    have HSN2 := Lib.hid (HSP.out hneg)
    clear HSN HSP
    clear hu hneg
    subst hn
    go_enter Tryd.func36, Tryd.ntmps36
    go_wp2_with fail
    go_loopw [3, 4] (fun v r wr => ∃ (k g cap q : Nat), k ≤ Lib.nDigits u ∧ v = .slice (some ⟨g, 0, none⟩) k cap ∧ q ≤ u ∧ Hid (q = u / 10 ^ k) ∧ r = .int .i64 ((q : Int)) ∧ Hid (GrU wr w.heap.size v (decN k u)) ∧ Hid (Below w.heap.size w wr)) (fun v _ _ => Lib.nDigits u - (match v with | .slice _ k _ => k | _ => 0))
    case atStart => exact ⟨0, _, _, u, Nat.zero_le _, rfl, Nat.le_refl _, Lib.hid (by simp), rfl, HST, HB0⟩
    case round =>
      obtain ⟨k, g, cap, q, hk, rfl, hq, HQ, rfl, HG, HB⟩ := hrel
      by_cases hlt : k < Lib.nDigits u
      · have hcl : k = 0 ∨ 1 ≤ q := by
          rcases nDigits_le hlt with h | h
          · exact .inl h
          · right; rw [HQ.out]; exact Nat.div_pos h (Nat.pow_pos (by decide))
        have hd := dig_u8 (q % 10) (Nat.mod_lt _ (by decide))
        have HQ2 : Hid (q / 10 = u / 10 ^ (k + 1)) := Lib.hid (by rw [HQ.out, Nat.div_div_eq_div_mul, Nat.pow_succ])
        have HDN : Hid (decN (k + 1) u = UInt8.ofNat (48 + q % 10) :: decN k u) := Lib.hid (by rw [HQ.out]; rfl)
        have hq10 : q / 10 ≤ u := Nat.le_trans (Nat.div_le_self _ _) hq
        obtain ⟨cc, hcc⟩ : ∃ c, c = UInt8.ofNat (48 + q % 10) := ⟨_, rfl⟩
        rw [← hcc] at hd HDN
        clear hcc
        have hc : Hid (48 + (q : Int) % 10 = (cc.toNat : Int)) := Lib.hid (by rw [← hd]; rfl)
        by_cases hk0 : k = 0
        · subst hk0
          have HO : Hid ((wr.alloc (.cells #[.int .u8 (48 + (q : Int) % 10)] 5)).ownsRow w.heap.size 5 1 (.slice (some ⟨wr.heap.size, 0, none⟩) 1 1) 1 [.int .u8 (48 + (q : Int) % 10)]) := Lib.hid (by rw [hc.out]; exact ownU_one wr w.heap.size cc HB.out.size)
          have HCL : Hid (∀ j z, ((decN 0 u).map u8v)[j]? = some z → (wr.alloc (.cells #[.int .u8 (48 + (q : Int) % 10)] 5)).cell? (Addr.add ⟨g, 0, none⟩ j) = some z) := Lib.hid (fun j z hj => by
            obtain ⟨-, hlt, hcells⟩ := GrU.cells HG.out
            rw [addr_add', World.cell?_alloc_old (h := Nat.ne_of_lt hlt), ← addr_add']
            exact hcells j z hj)
          go_wp2_with (first
            | (at_builtin; refine wpList_append_own _ rfl _ _ 39 rfl w.heap.size 5 i0 (.int .u8 0) 1 1 Tryd.underlying39 HI.out HZ0.out HZ1.out HZ2.out rfl (by decide) _ _ _ rfl HO.out ⟨g, 0, none⟩ 0 cap ((decN 0 u).map u8v) rfl (by rw [List.length_map, decN_length, Nat.mul_one]) HCL.out ?_ ?_ ?_ ?_ ?_)
            | fail)
          try any_goals (intro zz hzz; obtain ⟨y, -, rfl⟩ := List.mem_map.1 hzz; rfl)
          try any_goals (intro zz hzz; cases hzz; done)
          try any_goals (intro zz hzz; rfl)
          try any_goals (have := HND.out; unfold maxLen; omega)
          try any_goals (have := HND.out; omega)
          try any_goals (have := HB.out.size; simp; omega)
          intro v' w9 hown' hgrow hnil
          have hc9 := hc.out
          have hown2 : w9.ownsRow w.heap.size 5 1 v' (1 + (decN 0 u).length) ([u8v cc] ++ (decN 0 u).map u8v) := by rw [decN_length]; show w9.ownsRow _ _ _ _ _ ([.int .u8 (cc.toNat : Int)] ++ _); first | exact hown' | (rw [← hc9]; exact hown')
          obtain ⟨g2, b2⟩ := GrU.pre HB.out rfl hown2 (by show (wr.alloc (.cells #[.int .u8 (cc.toNat : Int)] _)).grownBy _ _; first | exact hgrow | (rw [← hc9]; exact hgrow))
          rw [← HDN.out] at g2
          obtain ⟨g', cap', rfl⟩ := GrU.some' g2 (by intro e; have := congrArg List.length e; simp [decN_length] at this)
          rw [decN_length] at *
          have HG9 := Lib.hid g2
          have HB9 := Lib.hid b2
          clear g2 b2 hown2 hown' hgrow hnil hc9 HCL HO
          go_wp2
          go_roundw
          case rel => exact ⟨0 + 1, g', cap', q / 10, by omega, rfl, hq10, HQ2, by go_num, HG9, HB9⟩
          case measure => simp; omega
        · have hz : ((k : Int) == 0) = false := by simp; omega
          have hq1 : 1 ≤ q := by omega
          have hz2 : (((q : Int)) != 0) = true := by simp; omega
          have HO : Hid ((wr.alloc (.cells #[.int .u8 (48 + (q : Int) % 10)] 5)).ownsRow w.heap.size 5 1 (.slice (some ⟨wr.heap.size, 0, none⟩) 1 1) 1 [.int .u8 (48 + (q : Int) % 10)]) := Lib.hid (by rw [hc.out]; exact ownU_one wr w.heap.size cc HB.out.size)
          have HCL : Hid (∀ j z, ((decN k u).map u8v)[j]? = some z → (wr.alloc (.cells #[.int .u8 (48 + (q : Int) % 10)] 5)).cell? (Addr.add ⟨g, 0, none⟩ j) = some z) := Lib.hid (fun j z hj => by
            obtain ⟨-, hlt, hcells⟩ := GrU.cells HG.out
            rw [addr_add', World.cell?_alloc_old (h := Nat.ne_of_lt hlt), ← addr_add']
            exact hcells j z hj)
          go_wp2_with (first
            | (at_builtin; refine wpList_append_own _ rfl _ _ 39 rfl w.heap.size 5 i0 (.int .u8 0) 1 1 Tryd.underlying39 HI.out HZ0.out HZ1.out HZ2.out rfl (by decide) _ _ _ rfl HO.out ⟨g, 0, none⟩ k cap ((decN k u).map u8v) rfl (by rw [List.length_map, decN_length, Nat.mul_one]) HCL.out ?_ ?_ ?_ ?_ ?_)
            | fail)
          try any_goals (intro zz hzz; obtain ⟨y, -, rfl⟩ := List.mem_map.1 hzz; rfl)
          try any_goals (intro zz hzz; cases hzz; done)
          try any_goals (intro zz hzz; rfl)
          try any_goals (have := HND.out; unfold maxLen; omega)
          try any_goals (have := HND.out; omega)
          try any_goals (have := HB.out.size; simp; omega)
          intro v' w9 hown' hgrow hnil
          have hc9 := hc.out
          have hown2 : w9.ownsRow w.heap.size 5 1 v' (1 + (decN k u).length) ([u8v cc] ++ (decN k u).map u8v) := by rw [decN_length]; show w9.ownsRow _ _ _ _ _ ([.int .u8 (cc.toNat : Int)] ++ _); first | exact hown' | (rw [← hc9]; exact hown')
          obtain ⟨g2, b2⟩ := GrU.pre HB.out rfl hown2 (by show (wr.alloc (.cells #[.int .u8 (cc.toNat : Int)] _)).grownBy _ _; first | exact hgrow | (rw [← hc9]; exact hgrow))
          rw [← HDN.out] at g2
          obtain ⟨g', cap', rfl⟩ := GrU.some' g2 (by intro e; have := congrArg List.length e; simp [decN_length] at this)
          rw [decN_length] at *
          have HG9 := Lib.hid g2
          have HB9 := Lib.hid b2
          clear g2 b2 hown2 hown' hgrow hnil hc9 HCL HO
          go_wp2
          go_roundw
          case rel => exact ⟨k + 1, g', cap', q / 10, by omega, rfl, hq10, HQ2, by go_num, HG9, HB9⟩
          case measure => simp; omega
      · obtain rfl : k = Lib.nDigits u := by omega
        have hkp := Lib.nDigits_pos u
        have hz : ((Lib.nDigits u : Int) == 0) = false := by simp; omega
        have hq0 : q = 0 := by rw [HQ.out]; exact Nat.div_eq_of_lt (Lib.lt_pow_nDigits u)
        subst hq0
        have hstr := HG.out.str
        rw [← HSN2.out] at hstr
        go_wp2
        go_ret
        exact ⟨rfl, HB.out⟩
end Go.Proofs.YtknabmknboffgaaDoor
