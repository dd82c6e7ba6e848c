/- NumbersText on both sides. No statement is proved here. -/
import Derived.Test.YtpjgmfkjpkeohaaDoorJoin
namespace Go.Proofs.YtpjgmfkjpkeohaaDoor
open Go Go.RowKit
theorem i_NumbersText (A : Option Addr) (cap : Nat) (xs : List Nat) (w : World) (h : Fl w A xs) (hn : xs.length ≤ 256) (hw : ∀ x ∈ xs, canon .f32 x < 4294967296) (hT : T64 w) :
    Calls Tryd.prog 127 #[.slice A xs.length cap] w fun e w' => e = .returned (.tuple #[.string (textS xs), .bool true]) ∧ Below w.heap.size w w' := by
  have HC := Lib.hid (i_joinTexts A cap xs w h hn hw hT)
  clear h hw hT
  go_enter Tryd.func127, Tryd.ntmps127
  go_wp2_with fail
  refine HC.out.mono ?_
  rintro e w1 ⟨rfl, hb⟩
  go_wp2
  go_ret2
  exact ⟨rfl, hb⟩
theorem i_NumbersText_no (A : Option Addr) (n cap : Nat) (w : World) (h : 256 < n) :
    Calls Tryd.prog 127 #[.slice A n cap] w fun e w' => e = .returned (.tuple #[.string ⟨#[]⟩, .bool false]) ∧ w' = w := by
  go_enter Tryd.func127, Tryd.ntmps127
  go_wp2_with fail
  refine (i_joinTexts_no A n cap _ w h).mono ?_
  rintro e w1 ⟨rfl, rfl⟩
  go_wp2
  go_ret2
  exact ⟨rfl, rfl⟩
theorem i_numbersText (A : Option Addr) (cap : Nat) (xs : List Nat) (w : World) (h : Fl w A xs) (hn : xs.length ≤ 256) (hw : ∀ x ∈ xs, canon .f32 x < 4294967296) (hT : T64 w) :
    Calls Tryd.prog 97 #[.slice A xs.length cap] w fun e w' => e = .returned (.string (textS xs)) ∧ Below w.heap.size w w' := by
  have HC := Lib.hid (i_NumbersText A cap xs w h hn hw hT)
  clear h hw hT
  go_enter Tryd.func97, Tryd.ntmps97
  go_wp2_with fail
  refine HC.out.mono ?_
  rintro e w1 ⟨rfl, hb⟩
  go_wp2
  go_ret
  exact ⟨rfl, hb⟩
theorem joinTail_snoc (r : List (List UInt8)) (x : List UInt8) : Lib.joinTail [44] (r ++ [x]) = Lib.joinTail [44] r ++ (44 :: x) := by
  unfold Lib.joinTail
  rw [List.map_append, List.flatten_append]
  simp
theorem joinS_one (xs : List Nat) (h : 0 < xs.length) : joinS (xs.take 1) = hexS (xs.getD 0 0) := by
  cases xs with
  | nil => cases h
  | cons x t =>
    show joinS [x] = hexS x
    unfold joinS
    simp only [List.map_cons, List.map_nil]
    rw [Lib.join_one]
theorem joinS_snoc (xs : List Nat) (k : Nat) (h1 : 1 ≤ k) (h : k < xs.length) : joinS (xs.take (k + 1)) = joinS (xs.take k) ++ (⟨#[44]⟩ ++ hexS (xs.getD k 0)) := by
  unfold joinS
  rw [map_take_snoc xs k h, List.map_append]
  obtain ⟨y, t, hy⟩ : ∃ y t, (xs.take k).map hexS = y :: t := by
    cases e : (xs.take k).map hexS with
    | nil =>
      have h2 := congrArg List.length e
      rw [List.length_map, List.length_take, List.length_nil] at h2
      omega
    | cons y t => exact ⟨y, t, rfl⟩
  rw [hy, List.map_cons, List.cons_append, List.map_cons, List.map_nil, Lib.join_cons, Lib.join_cons, joinTail_snoc]
  apply ByteArray.ext
  simp [hexS]
theorem shr4 (n k : Nat) (hk : k ≤ 7) : (n : Int) / 2 ^ (28 - 4 * k) = ((n / 16 ^ (7 - k) : Nat) : Int) := by
  have e : (2 : Int) ^ (28 - 4 * k) = ((16 ^ (7 - k) : Nat) : Int) := by
    rw [show 28 - 4 * k = 4 * (7 - k) by omega, Int.pow_mul]
    norm_cast
  rw [e]
  norm_cast
theorem and15i (u : Nat) (h : u < 4294967296) : bits BinOp.and IntKind.i64 (u : Int) 15 = ((u % 16 : Nat) : Int) := by
  have hx : u &&& 15 = u % 16 := Nat.and_two_pow_sub_one_eq_mod u 4
  have h1 : (BitVec.ofInt 64 (u : Int)).toNat = u := by
    rw [BitVec.ofInt_natCast, BitVec.toNat_ofNat]; exact Nat.mod_eq_of_lt (by omega)
  have h2 : (BitVec.ofInt 64 (15 : Int)).toNat = 15 := by decide
  show IntKind.i64.wrap ((BitVec.ofInt 64 (u : Int) &&& BitVec.ofInt 64 (15 : Int)).toNat : Int) = _
  rw [BitVec.toNat_and, h1, h2, hx, IntWalk.i64_in _ (by omega)]
set_option maxHeartbeats 1000000 in
set_option maxRecDepth 100000 in
theorem s_l01Hex (b : Nat) (w : World) (hb : canon .f32 b < 4294967296) :
    Calls Tryd.prog 125 #[.float .f32 b] w fun e w' => e = .returned (.string (hexS b)) ∧ Below w.heap.size w w' := by
  have HE : Hid (hexS b = ⟨(hexN 8 (canon .f32 b)).toArray⟩) := rfl
  generalize hexS b = res at HE
  obtain ⟨i0, hi, hz0, hz1, hz2⟩ := info_parts u8_info
  have HI := Lib.hid hi
  have HZ0 := Lib.hid hz0
  have HZ1 := Lib.hid hz1
  have HZ2 := Lib.hid hz2
  clear hi hz0 hz1 hz2
  have HST : Hid (GrU (w.alloc (.cells #[] 5)) w.heap.size (.slice (some ⟨w.heap.size, 0, none⟩) 0 0) []) := Lib.hid (GrU.made _ _ 0 #[] (Nat.le_refl _) (by unfold maxLen; omega) rfl)
  have HB0 : Hid (Below w.heap.size w (w.alloc (.cells #[] 5))) := Lib.hid ((Below.refl _ _).alloc (Nat.le_refl _) _)
  have hcal := l01Bits_any b w hb
  generalize canon .f32 b = n at hb hcal HE
  go_enter Tryd.func125, Tryd.ntmps125
  go_wp2_with fail
  refine hcal.mono ?_
  rintro e w' ⟨rfl, rfl⟩
  go_wp2_with fail
  go_loopw [4, 5] (fun v i wr => ∃ k : Nat, k ≤ 8 ∧ i = .int .i64 (28 - 4 * (k : Int)) ∧ Hid (GrU wr w'.heap.size v (hexN k (n / 16 ^ (8 - k)))) ∧ Hid (Below w'.heap.size w' wr)) (fun _ i _ => (intOf i + 4).toNat)
  case atStart => exact ⟨0, Nat.zero_le _, rfl, HST, HB0⟩
  case round =>
    obtain ⟨k, hk, rfl, HG, HB⟩ := hrel
    by_cases hlt : k < 8
    · obtain ⟨d, hd, hkey, HN⟩ : ∃ d : Nat, d < 16 ∧ bits BinOp.and IntKind.i64 ((n : Int) / 2 ^ (28 - 4 * k)) 15 = (d : Int) ∧ Hid (hexN (k + 1) (n / 16 ^ (8 - (k + 1))) = hexN k (n / 16 ^ (8 - k)) ++ [hexc d]) := by
        refine ⟨n / 16 ^ (7 - k) % 16, Nat.mod_lt _ (by decide), ?_, Lib.hid ?_⟩
        · rw [shr4 n k (by omega), and15i _ (Nat.lt_of_le_of_lt (Nat.div_le_self _ _) hb)]
        · rw [show 8 - (k + 1) = 7 - k by omega, hexN_next, Nat.div_div_eq_div_mul, ← Nat.pow_succ, show (7 - k).succ = 8 - k by omega]
      have hdig := dig16 d hd
      have HLN : Hid ((hexN k (n / 16 ^ (8 - k))).length = k) := Lib.hid (hexN_length _ _)
      generalize hexN k (n / 16 ^ (8 - k)) = ys at HG HN HLN
      have hown := HG.out
      unfold GrU at hown
      go_wp2_with (first
        | (at_builtin; refine wpList_append_own _ rfl _ _ 124 rfl w'.heap.size 5 i0 (.int .u8 0) 1 1 Tryd.underlying124 HI.out HZ0.out HZ1.out HZ2.out rfl (by decide) _ _ _ rfl (hown.alloc _) ⟨_, 0, none⟩ 1 1 [u8v (hexc d)] rfl rfl ?c1 ?c2 ?c3 ?c4 ?c5 ?_)
        | fail)
      case c1 =>
        intro j u hj
        match j, hj with
        | 0, hj => simp at hj; subst hj; simp [Addr.add]
      case c2 => intro u hu; simp at hu; subst hu; rfl
      case c3 => have := HLN.out; unfold maxLen; omega
      case c4 => have := HLN.out; omega
      case c5 => have := HB.out.size; simp; omega
      · intro v' w9 hown' hgrow _
        obtain ⟨g2, b2⟩ := GrU.next HG.out HB.out (Nat.le_refl _) hown' hgrow
        have HG9 : Hid (GrU w9 w'.heap.size v' (hexN (k + 1) (n / 16 ^ (8 - (k + 1))))) := Lib.hid (by rw [HN.out]; exact g2)
        have HB9 := Lib.hid b2
        clear g2 b2 hown hown' hgrow
        go_wp2
        go_roundw
        case rel => exact ⟨k + 1, by omega, by go_num, HG9, HB9⟩
        case measure => simp [intOf]; omega
    · obtain rfl : k = 8 := by omega
      have hstr := HG.out.str
      have HR : Hid (⟨(hexN 8 (n / 16 ^ (8 - 8))).toArray⟩ = res) := Lib.hid (by rw [HE.out]; simp)
      rw [HR.out] at hstr
      go_wp2
      go_ret
      exact ⟨rfl, HB.out⟩
theorem s_l01NText (A : Option Addr) (cap : Nat) (xs : List Nat) (w : World) (h : Fl w A xs) (hn : xs.length ≤ 256) (hw : ∀ x ∈ xs, canon .f32 x < 4294967296) :
    Calls Tryd.prog 91 #[.slice A xs.length cap] w fun e w' => e = .returned (.string (textS xs)) ∧ Below w.heap.size w w' := by
  by_cases h0 : xs.length = 0
  · have HS : Hid (textS xs = ⟨#[110, 111, 110, 101]⟩) := Lib.hid (by unfold textS; rw [if_pos h0])
    go_enter Tryd.func91, Tryd.ntmps91
    go_wp2
    go_ret
    exact ⟨by rw [HS.out]; rfl, Below.refl _ _⟩
  · have HF := Lib.hid h
    have HW := Lib.hid hw
    have HS : Hid (textS xs = joinS xs) := Lib.hid (by unfold textS; rw [if_neg h0])
    have hz : ((xs.length : Int) == 0) = false := by simp; intro e; exact h0 (by simp [e])
    obtain ⟨b, off, rfl, -, hc⟩ := h.at_ (k := 0) (by omega)
    have HX : Hid (canon .f32 (xs.getD 0 0) < 4294967296) := Lib.hid (hw _ (by simp [List.getD, show 0 < xs.length by omega]))
    have HJ1 : Hid (joinS (xs.take 1) = hexS (xs.getD 0 0)) := Lib.hid (joinS_one xs (by omega))
    have hpos : 1 ≤ xs.length := by omega
    generalize xs.getD 0 0 = x0 at hc HX HJ1
    rw [Nat.add_zero] at hc
    clear h hw
    go_enter Tryd.func91, Tryd.ntmps91
    go_wp2_with fail
    refine (s_l01Hex x0 _ HX.out).mono ?_
    rintro e w1 ⟨rfl, hb1⟩
    have HB1 := Lib.hid hb1
    clear hb1 hc
    go_wp2_with fail
    go_loopw [3, 4] (fun v i wr => ∃ k : Nat, 1 ≤ k ∧ k ≤ xs.length ∧ i = .int .i64 k ∧ v = .string (joinS (xs.take k)) ∧ Hid (Below w.heap.size w wr)) (fun _ i _ => xs.length - (intOf i).toNat)
    case atStart => exact ⟨1, Nat.le_refl _, hpos, rfl, by rw [HJ1.out], HB1⟩
    case round =>
      obtain ⟨k, hk1, hk, rfl, rfl, HB⟩ := hrel
      by_cases hlt : k < xs.length
      · have hc : wr.cell? ⟨b, off + k, none⟩ = some (.float .f32 (xs.getD k 0)) := by
          obtain ⟨b', off', e, -, h⟩ := (HF.out.below HB.out).at_ hlt
          cases e; exact h
        have HX2 : Hid (canon .f32 (xs.getD k 0) < 4294967296) := Lib.hid (HW.out _ (by simp [List.getD, hlt]))
        have HJ : Hid (joinS (xs.take (k + 1)) = joinS (xs.take k) ++ (⟨#[44]⟩ ++ hexS (xs.getD k 0))) := Lib.hid (joinS_snoc xs k hk1 hlt)
        have hs1 := hexS_size (xs.getD k 0)
        have hs2 : (joinS (xs.take k)).size ≤ 2304 := by have := joinS_size (xs.take k); simp at this; omega
        generalize joinS (xs.take k) = J at HJ hs2
        generalize xs.getD k 0 = x at hc HX2 HJ hs1
        go_wp2_with fail
        refine (s_l01Hex x wr HX2.out).mono ?_
        rintro e w2 ⟨rfl, hb2⟩
        have HB2 : Hid (Below w.heap.size w w2) := Lib.hid (below_of HB.out HB.out.size hb2)
        clear hb2 hc
        generalize hexS x = T at HJ hs1 ⊢
        have hs3 : ((⟨#[44]⟩ : ByteArray) ++ T).size = 9 := by rw [ByteArray.size_append, hs1]; rfl
        go_wp2
        go_roundw
        case rel => exact ⟨k + 1, by omega, by omega, by go_num, by rw [HJ.out], HB2⟩
        case measure => simp [intOf]; omega
      · obtain rfl : k = xs.length := by omega
        have HR : Hid (joinS (xs.take xs.length) = textS xs) := Lib.hid (by rw [List.take_length, HS.out])
        go_wp2
        go_ret
        exact ⟨by rw [HR.out]; rfl, HB.out⟩
end Go.Proofs.YtpjgmfkjpkeohaaDoor
