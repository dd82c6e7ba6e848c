/- The text of a rotor, both sides. No statement is proved here. -/
import Derived.Test.YtpjgmfkjpkeohaaDoorProT
import Derived.Test.YtpjgmfkjpkeohaaDoorDec
import Derived.Test.YtpjgmfkjpkeohaaDoorValS
import Derived.Test.YtpjgmfkjpkeohaaDoorInv6
namespace Go.Proofs.YtpjgmfkjpkeohaaDoor
open Go Go.RowKit
/-- the text of a rotor -/
def rotS (a l d s : List Nat) (c : Int) (hub tip : Nat) : ByteArray := profS a l d ++ ⟨#[59]⟩ ++ textS s ++ ⟨#[59]⟩ ++ decS c ++ ⟨#[59]⟩ ++ textS [hub, tip]
def rotT (a l d s : List Nat) (n : Nat) (c : Int) (hub tip : Nat) : ByteArray := if validR a l d s n c hub tip then rotS a l d s c hub tip else ⟨#[]⟩
theorem len2 (a b : Nat) : [a, b].length ≤ 256 := by simp
theorem validR_sized {a l d s : List Nat} {n : Nat} {c : Int} {hub tip : Nat} (h : validR a l d s n c hub tip = true) : sized a l d ∧ n ≤ 12 := by
  unfold validR at h
  simp only [Bool.and_eq_true] at h
  exact ⟨validP_sized h.1, (of_decide_eq_true h.2.1).2.2.2⟩
theorem blkL7 {w : World} {B : Nat} {v0 v1 v2 v3 v4 v5 v6 : Value} (h : BlkL w B [v0, v1, v2, v3, v4, v5, v6]) : w.cell? ⟨B, 0, none⟩ = some v0 ∧ w.cell? ⟨B, 1, none⟩ = some v1 ∧ w.cell? ⟨B, 2, none⟩ = some v2 ∧ w.cell? ⟨B, 3, none⟩ = some v3 ∧ w.cell? ⟨B, 4, none⟩ = some v4 ∧ w.cell? ⟨B, 5, none⟩ = some v5 ∧ w.cell? ⟨B, 6, none⟩ = some v6 :=
  ⟨(h.2 0 _ rfl).1, (h.2 1 _ rfl).1, (h.2 2 _ rfl).1, (h.2 3 _ rfl).1, (h.2 4 _ rfl).1, (h.2 5 _ rfl).1, (h.2 6 _ rfl).1⟩
theorem prof_of {w : World} {B : Nat} {v0 v1 v2 : Value} {t : List Value} (h : BlkL w B (v0 :: v1 :: v2 :: t)) : BlkL w B [v0, v1, v2] :=
  ⟨h.1, fun j v hj => h.2 j v (by match j, hj with | 0, hj => exact hj | 1, hj => exact hj | 2, hj => exact hj | j + 3, hj => simp at hj)⟩
theorem take3 (s : List Nat) (k : Nat) (h : k * 3 + 2 < s.length) : s.take ((k + 1) * 3) = s.take (k * 3) ++ [s.getD (k * 3) 0, s.getD (k * 3 + 1) 0, s.getD (k * 3 + 2) 0] := by
  have g0 : s.getD (k * 3) 0 = s[k * 3] := by simp [List.getD, show k * 3 < s.length by omega]
  have g1 : s.getD (k * 3 + 1) 0 = s[k * 3 + 1] := by simp [List.getD, show k * 3 + 1 < s.length by omega]
  have g2 : s.getD (k * 3 + 2) 0 = s[k * 3 + 2] := by simp [List.getD, h]
  rw [g0, g1, g2, show (k + 1) * 3 = k * 3 + 1 + 1 + 1 by omega, List.take_succ_eq_append_getElem (by omega), List.take_succ_eq_append_getElem (by omega), List.take_succ_eq_append_getElem (by omega)]
  simp only [List.append_assoc, List.cons_append, List.nil_append]
/-- the world on the way through the region that appends: ahead of the slice, behind it, behind the append -/
def CC6 (P0 P1 : World) (listed : Array Bool) (ww : World) : Prop :=
  (listed.getD 13 false = false → ww = P0) ∧ (listed.getD 13 false = true → listed.getD 14 false = false → ww = P1)
theorem CC6.start (P0 P1 : World) (n : Nat) : CC6 P0 P1 (Array.replicate n false) P0 := by
  refine ⟨fun _ => rfl, fun h => ?_⟩
  rw [Array.getD_eq_getD_getElem?, Array.getElem?_replicate] at h
  split at h <;> cases h
theorem CC6.keep {P0 P1 ww : World} {listed : Array Bool} {i n : Nat} (h : CC6 P0 P1 listed ww) (hn : listed.size = n) (hi : i < n) (h13 : i ≠ 13) (h14 : i ≠ 14) : CC6 P0 P1 (listed.setIfInBounds i true) ww := by
  have hil : i < listed.size := by omega
  refine ⟨fun h1 => h.1 ?_, fun h1 h2 => h.2 ?_ ?_⟩
  · rw [getD_set hil, if_neg h13] at h1; exact h1
  · rw [getD_set hil, if_neg h13] at h1; exact h1
  · rw [getD_set hil, if_neg h14] at h2; exact h2
theorem CC6.make {P0 P1 ww : World} {listed : Array Bool} {n : Nat} (_h : CC6 P0 P1 listed ww) (hn : listed.size = n) (hi : 13 < n) (_h14 : listed.getD 14 false = false) : CC6 P0 P1 (listed.setIfInBounds 13 true) P1 := by
  have hil : 13 < listed.size := by omega
  refine ⟨fun h1 => ?_, fun _ _ => rfl⟩
  rw [getD_set hil, if_pos rfl] at h1
  cases h1
theorem CC6.app {P0 P1 ww : World} {listed : Array Bool} {n : Nat} (_h : CC6 P0 P1 listed ww) (hn : listed.size = n) (hi : 14 < n) (h13 : listed.getD 13 false = true) (w9 : World) : CC6 P0 P1 (listed.setIfInBounds 14 true) w9 := by
  have hil : 14 < listed.size := by omega
  refine ⟨fun h1 => ?_, fun _ h2 => ?_⟩
  · rw [getD_set hil, if_neg (by decide), h13] at h1; cases h1
  · rw [getD_set hil, if_pos rfl] at h2; cases h2
theorem Gr.next3 {w0 wr w1 : World} {B0 x y z : Nat} {v v' : Value} {xs : List Nat} (h : Gr wr B0 v xs) (hb : Below w0.heap.size w0 wr) (hB : w0.heap.size ≤ B0)
    (ho : w1.ownsRow B0 33 1 v' (xs.length + 3) (xs.map (Value.float .f32) ++ [.float .f32 x, .float .f32 y, .float .f32 z])) {wm : World} (hm : Below w0.heap.size w0 wm) (hs : wr.heap.size ≤ wm.heap.size) (hg : wm.grownBy w1 v.ownBlock) : Gr w1 B0 v' (xs ++ [x, y, z]) ∧ Below w0.heap.size w0 w1 := by
  refine ⟨by unfold Gr; simpa using ho, ?_⟩
  have hlt := World.ownsRow.lt h
  exact hm.grown hg hm.size (fun k hk => by have := (hlt k hk).1; omega)
set_option maxHeartbeats 8000000 in
set_option maxRecDepth 100000 in
theorem i_rotorText (A L D S : Option Addr) (ca cl cd n cs : Nat) (c : Int) (hub tip : Nat) (a l d s : List Nat) (w : World) (h : Rt w A L D S a l d s) (hs : s.length = n * 3) (hz : sized a l d) (hn12 : n ≤ 12) (hw : (∀ x ∈ a, canon .f32 x < 4294967296) ∧ (∀ x ∈ l, canon .f32 x < 4294967296) ∧ ∀ x ∈ d, canon .f32 x < 4294967296) (hws : (∀ x ∈ s, canon .f32 x < 4294967296) ∧ ∀ x ∈ [hub, tip], canon .f32 x < 4294967296) (hi : -9223372036854775808 ≤ c ∧ c ≤ 9223372036854775807) (hT : T64 w ∧ T10 w) :
    Calls Tryd.prog 57 #[.agg #[.slice A a.length ca, .slice L l.length cl, .slice D d.length cd, .slice S n cs, .int .i64 c, .float .f32 hub, .float .f32 tip]] w fun e w' => e = .returned (.string (rotS a l d s c hub tip)) ∧ Below w.heap.size w w' := by
  have HCP : Hid (∀ W, Below w.heap.size w W → Calls Tryd.prog 49 #[.agg #[.slice A a.length ca, .slice L l.length cl, .slice D d.length cd]] W fun e w' => e = .returned (.string (profS a l d)) ∧ Below W.heap.size W w') := Lib.hid (fun W hb => i_profileText A L D ca cl cd a l d W (h.1.below hb) hz hw (hT.1.below hb))
  have zP : (profS a l d).size ≤ 3000 := profS_size hz
  have HCA : Hid (∀ W A2 cap2, Below w.heap.size w W → Fl W A2 s → Calls Tryd.prog 97 #[.slice A2 s.length cap2] W fun e w' => e = .returned (.string (textS s)) ∧ Below W.heap.size W w') := Lib.hid (fun W A2 cap2 hb hf => i_numbersText A2 cap2 s W hf (by omega) hws.1 (hT.1.below hb))
  have zA : (textS s).size ≤ 3000 := by have h1 := textS_size s; omega
  have HCB : Hid (∀ W, Below w.heap.size w W → Calls Tryd.prog 104 #[.int .i64 c] W fun e w' => e = .returned (.string (decS c)) ∧ Below W.heap.size W w') := Lib.hid (fun W hb => i_Decimal c W hi.1 hi.2 (hT.2.below hb))
  have zB : (decS c).size ≤ 3000 := Nat.le_trans (itoa_size c hi.1 hi.2) (by decide)
  have HCC : Hid (∀ W g, Below w.heap.size w W → Fl W (some ⟨g, 0, none⟩) [hub, tip] → Calls Tryd.prog 97 #[.slice (some ⟨g, 0, none⟩) 2 2] W fun e w' => e = .returned (.string (textS [hub, tip])) ∧ Below W.heap.size W w') := Lib.hid (fun W g hb hf => i_numbersText _ 2 [hub, tip] W hf (len2 ..) hws.2 (hT.1.below hb))
  have zC : (textS [hub, tip]).size ≤ 3000 := by have h1 := textS_size [hub, tip]; have h2 : [hub, tip].length ≤ 256 := (len2 ..); omega
  have HS : Hid (rotS a l d s c hub tip = profS a l d ++ ⟨#[59]⟩ ++ textS s ++ ⟨#[59]⟩ ++ decS c ++ ⟨#[59]⟩ ++ textS [hub, tip]) := rfl
  generalize rotS a l d s c hub tip = res at HS ⊢
  generalize profS a l d = TP at HCP zP HS
  generalize textS s = TA at HCA zA HS
  generalize decS c = TB at HCB zB HS
  generalize textS [hub, tip] = TC at HCC zC HS
  obtain ⟨i0, hi0, hz0, hz1, hz2⟩ := info_parts f32_info
  have HI := Lib.hid hi0
  have HZ0 := Lib.hid hz0
  have HZ1 := Lib.hid hz1
  have HZ2 := Lib.hid hz2
  clear hi0 hz0 hz1 hz2
  have HN12 := Lib.hid hn12
  have HSL := Lib.hid hs
  have HB0 : Hid (Below w.heap.size w (w.alloc (.cells #[.slice A a.length ca, .slice L l.length cl, .slice D d.length cd, .slice S n cs, .int .i64 c, .float .f32 hub, .float .f32 tip] 40))) := Lib.hid ((Below.refl _ _).alloc (Nat.le_refl _) _)
  have HK : Hid (BlkL (w.alloc (.cells #[.slice A a.length ca, .slice L l.length cl, .slice D d.length cd, .slice S n cs, .int .i64 c, .float .f32 hub, .float .f32 tip] 40)) w.heap.size [.slice A a.length ca, .slice L l.length cl, .slice D d.length cd, .slice S n cs, .int .i64 c, .float .f32 hub, .float .f32 tip]) := Lib.hid (blkL_at w #[.slice A a.length ca, .slice L l.length cl, .slice D d.length cd, .slice S n cs, .int .i64 c, .float .f32 hub, .float .f32 tip] _ rfl)
  have HF := Lib.hid (h.2.below HB0.out)
  clear h hs hz hw hws hi hT
  obtain ⟨w0, hw0⟩ : ∃ z, z = w.alloc (.cells #[.slice A a.length ca, .slice L l.length cl, .slice D d.length cd, .slice S n cs, .int .i64 c, .float .f32 hub, .float .f32 tip] 40) := ⟨_, rfl⟩
  rw [← hw0] at HB0 HK HF
  obtain ⟨BB, hBB⟩ : ∃ z, z = w.heap.size := ⟨_, rfl⟩
  rw [← hBB] at HK
  have hst := (blkL7 HK.out).2.2.2.1
  go_enter Tryd.func57, Tryd.ntmps57
  go_wp2_with fail
  rw [← hw0]
  rw [← hBB]
  clear hw0 hBB hst
  go_loopw [3, 9] (fun v i wr => ∃ (k : Nat), k ≤ n ∧ i = .int .i64 k ∧ Hid (Gr wr w0.heap.size v (s.take (k * 3))) ∧ Hid (Below w0.heap.size w0 wr)) (fun _ i _ => n - (intOf i).toNat)
  case atStart => exact ⟨0, Nat.zero_le _, rfl, Lib.hid (by rw [Nat.zero_mul, List.take_zero]; exact Gr.nil _ _), Lib.hid (Below.refl _ _)⟩
  case round =>
    obtain ⟨k, hk, rfl, HG, HB⟩ := hrel
    by_cases hlt : k < n
    · have h3 : k * 3 + 2 < s.length := by have := HSL.out; omega
      obtain ⟨b, off, rfl, -, hc0⟩ := (HF.out.below HB.out).at_ (k := k * 3) (by omega)
      have hc1 := (HF.out.below HB.out).same rfl (k := k * 3 + 1) (by omega)
      have hc2 := (HF.out.below HB.out).same rfl (k := k * 3 + 2) (by omega)
      rw [← Nat.add_assoc] at hc1 hc2
      have HTK := Lib.hid (take3 s k h3)
      have HLN : Hid ((s.take (k * 3)).length = k * 3) := Lib.hid (by rw [List.length_take]; omega)
      generalize s.getD (k * 3) 0 = x at hc0 HTK
      generalize s.getD (k * 3 + 1) 0 = y at hc1 HTK
      generalize s.getD (k * 3 + 2) 0 = z at hc2 HTK
      generalize s.take (k * 3) = ys at HG HTK HLN
      have hown := HG.out
      unfold Gr at hown
      have HM : Hid (Below w0.heap.size w0 ((wr.alloc (.cells #[.float .f32 x, .float .f32 y, .float .f32 z] 155)).alloc (.cells #[.float .f32 x, .float .f32 y, .float .f32 z] 33))) := Lib.hid ((HB.out.alloc HB.out.size _).alloc (HB.out.alloc HB.out.size _).size _)
      have HCE : Hid (∀ j u, [Value.float .f32 x, .float .f32 y, .float .f32 z][j]? = some u → ((wr.alloc (.cells #[.float .f32 x, .float .f32 y, .float .f32 z] 155)).alloc (.cells #[.float .f32 x, .float .f32 y, .float .f32 z] 33)).cell? (Addr.add ⟨wr.heap.size + 1, 0, none⟩ j) = some u) := Lib.hid (fun j u hj => by
        rw [addr_add', World.cell?_alloc_at (w := wr.alloc (.cells #[.float .f32 x, .float .f32 y, .float .f32 z] 155)) (hn := by simp), Nat.zero_add]
        match j, hj with
        | 0, hj => simpa using hj
        | 1, hj => simpa using hj
        | 2, hj => simpa using hj
        | j + 3, hj => simp at hj)
      go_wp2_with (first
        | (at_builtin; refine wpList_append_own _ rfl _ _ 22 rfl w0.heap.size 33 i0 (.float .f32 0) 1 4 Tryd.underlying22 HI.out HZ0.out HZ1.out HZ2.out rfl (by decide) _ _ _ rfl ((hown.alloc _).alloc _) ⟨wr.heap.size + 1, 0, none⟩ 3 3 [.float .f32 x, .float .f32 y, .float .f32 z] rfl rfl HCE.out (by intro u hu; simp only [List.mem_cons, List.not_mem_nil, or_false] at hu; rcases hu with rfl | rfl | rfl <;> rfl) (by have h1 := HN12.out; have h2 := HLN.out; unfold maxLen; omega) (by have h1 := HN12.out; have h2 := HLN.out; omega) (by have := HM.out.size; simp at this ⊢; omega) ?_)
        | fail)
      intro v' w9 hown' hgrow _
      obtain ⟨g2, b2⟩ := Gr.next3 HG.out HB.out (Nat.le_refl _) hown' HM.out (by simp; omega) hgrow
      have HG9 : Hid (Gr w9 w0.heap.size v' (s.take ((k + 1) * 3))) := Lib.hid (by rw [HTK.out]; exact g2)
      have HB9 := Lib.hid b2
      clear g2 b2 hown hown' hgrow HM HCE
      go_wp2
      go_roundw
      case rel => exact ⟨k + 1, by omega, by go_num, HG9, HB9⟩
      case measure => simp [intOf]; omega
    · have hkn : k = n := by omega
      have hts : s.take (k * 3) = s := by rw [hkn, ← HSL.out, List.take_length]
      have HG2 := HG.out
      rw [hts] at HG2
      obtain ⟨A2, cap2, bb2, rfl, how⟩ := HG2.own
      have HFS : Hid (Fl wr A2 s) := Lib.hid how.fl
      clear HG how HG2 hts
      go_wp2_with fail
      refine wp_region_inv4 (fun iq wv v => match iq with
        | 0 => v = .pointer (some ⟨BB, 0, none⟩)
        | 1 => v = .agg #[.slice A a.length ca, .slice L l.length cl, .slice D d.length cd]
        | 2 => v = .string TP
        | 3 => v = .string (TP ++ (⟨#[59]⟩))
        | 4 => v = .slice A2 s.length cap2
        | 5 => v = .string TA
        | 6 => v = .string (((TP ++ (⟨#[59]⟩))) ++ TA)
        | 7 => v = .string (((((TP ++ (⟨#[59]⟩))) ++ TA)) ++ (⟨#[59]⟩))
        | 8 => v = .pointer (some ⟨BB, 4, none⟩)
        | 9 => v = .int .i64 c
        | 10 => v = .string TB
        | 11 => v = .string (((((((TP ++ (⟨#[59]⟩))) ++ TA)) ++ (⟨#[59]⟩))) ++ TB)
        | 12 => v = .string (((((((((TP ++ (⟨#[59]⟩))) ++ TA)) ++ (⟨#[59]⟩))) ++ TB)) ++ (⟨#[59]⟩))
        | 13 => v = .pointer (some ⟨BB, 5, none⟩)
        | 14 => v = .float .f32 hub
        | 15 => v = .pointer (some ⟨BB, 6, none⟩)
        | 16 => v = .float .f32 tip
        | 17 => ∃ q, v = .slice (some ⟨q, 0, none⟩) 2 2 ∧ Fl wv (some ⟨q, 0, none⟩) [hub, tip]
        | 18 => v = .string TC
        | 19 => v = .string (((((((((((TP ++ (⟨#[59]⟩))) ++ TA)) ++ (⟨#[59]⟩))) ++ TB)) ++ (⟨#[59]⟩))) ++ TC)
        | 20 => v = .string (((((((((((TP ++ (⟨#[59]⟩))) ++ TA)) ++ (⟨#[59]⟩))) ++ TB)) ++ (⟨#[59]⟩))) ++ TC)
        | _ => False) (fun _ ww => Below wr.heap.size wr ww) (fun w w' => Below w.heap.size w w') ?hmono (by kernel_rfl) (by kernel_rfl) ((Below.refl _ _).drew) ?hop ?hend
      case hmono =>
        intro i wa wb v hR hV
        rcases i with _ | _ | _ | _ | _ | _ | _ | _ | _ | _ | _ | _ | _ | _ | _ | _ | _ | _ | _ | _ | _ | i
        · exact hV
        · exact hV
        · exact hV
        · exact hV
        · exact hV
        · exact hV
        · exact hV
        · exact hV
        · exact hV
        · exact hV
        · exact hV
        · exact hV
        · exact hV
        · exact hV
        · exact hV
        · exact hV
        · exact hV
        · obtain ⟨q, rfl, ho⟩ := hV; exact ⟨q, rfl, ho.below hR⟩
        · exact hV
        · exact hV
        · exact hV
        · exact hV
      case hop =>
        intro q o hq listed act w3 hI hnot hcl hall
        have hB := hI.cls
        obtain ⟨k0, k1, k2, k3, k4, k5, k6⟩ := blkL7 ((HK.out.below HB.out).below hB)
        rcases q with _ | _ | _ | _ | _ | _ | _ | _ | _ | _ | _ | _ | _ | _ | _ | _ | _ | _ | _ | _ | _ | q
        · simp at hq; subst hq
          have g1 : act.tmps[1]?.getD undef = .pointer (some ⟨BB, 0, none⟩) := hI.kept 1 (by kernel_rfl)
          clear hI hall hnot hcl
          refine .inl ⟨wanted_none rfl, ?_⟩
          unfold Oper.wp
          go_simp
          all_goals first | exact ⟨_, rfl, Below.refl _ _, rfl, hB⟩ | exact ⟨Below.refl _ _, hB⟩ | exact Below.refl _ _
        · simp at hq; subst hq
          have g23 : act.tmps[23]?.getD undef = .pointer (some ⟨BB, 0, none⟩) := hI.has 0 23 rfl (hall ⟨0, .data⟩ (by simp) rfl)
          clear hI hall hnot hcl
          refine .inl ⟨wanted_none rfl, ?_⟩
          unfold Oper.wp
          go_simp
          all_goals first | exact ⟨_, rfl, Below.refl _ _, rfl, hB⟩ | exact ⟨Below.refl _ _, hB⟩ | exact Below.refl _ _
        · simp at hq; subst hq
          have g24 : act.tmps[24]?.getD undef = .agg #[.slice A a.length ca, .slice L l.length cl, .slice D d.length cd] := hI.has 1 24 rfl (hall ⟨1, .data⟩ (by simp) rfl)
          clear hI hall hnot hcl
          refine .inl ⟨wanted_none rfl, ?_⟩
          unfold Oper.wp
          go_simp
          refine (HCP.out _ (below_of HB0.out HB0.out.size (below_of HB.out HB.out.size hB))).mono ?_
          rintro e w4 ⟨rfl, b4⟩
          exact ⟨_, rfl, b4, rfl, below_of hB hB.size b4⟩
        · simp at hq; subst hq
          have g25 : act.tmps[25]?.getD undef = .string TP := hI.has 2 25 rfl (hall ⟨2, .data⟩ (by simp) rfl)
          clear hI hall hnot hcl
          refine .inl ⟨wanted_none rfl, ?_⟩
          unfold Oper.wp
          go_simp
          rw [if_neg (by omega)]
          go_simp
          all_goals first | exact ⟨_, rfl, Below.refl _ _, rfl, hB⟩ | exact ⟨Below.refl _ _, hB⟩ | exact Below.refl _ _
        · simp at hq; subst hq
          have g3 : act.tmps[3]?.getD undef = .slice A2 s.length cap2 := hI.kept 3 (by kernel_rfl)
          clear hI hall hnot hcl
          refine .inl ⟨wanted_none rfl, ?_⟩
          unfold Oper.wp
          go_simp
          all_goals first | exact ⟨_, rfl, Below.refl _ _, rfl, hB⟩ | exact ⟨Below.refl _ _, hB⟩ | exact Below.refl _ _
        · simp at hq; subst hq
          have g27 : act.tmps[27]?.getD undef = .slice A2 s.length cap2 := hI.has 4 27 rfl (hall ⟨4, .data⟩ (by simp) rfl)
          clear hI hall hnot hcl
          refine .inl ⟨wanted_none rfl, ?_⟩
          unfold Oper.wp
          go_simp
          refine (HCA.out _ A2 cap2 (below_of HB0.out HB0.out.size (below_of HB.out HB.out.size hB)) (HFS.out.below hB)).mono ?_
          rintro e w4 ⟨rfl, b4⟩
          exact ⟨_, rfl, b4, rfl, below_of hB hB.size b4⟩
        · simp at hq; subst hq
          have g26 : act.tmps[26]?.getD undef = .string (TP ++ (⟨#[59]⟩)) := hI.has 3 26 rfl (hall ⟨3, .data⟩ (by simp) rfl)
          have g28 : act.tmps[28]?.getD undef = .string TA := hI.has 5 28 rfl (hall ⟨5, .data⟩ (by simp) rfl)
          clear hI hall hnot hcl
          refine .inl ⟨wanted_none rfl, ?_⟩
          unfold Oper.wp
          go_simp
          rw [if_neg (by omega)]
          go_simp
          all_goals first | exact ⟨_, rfl, Below.refl _ _, rfl, hB⟩ | exact ⟨Below.refl _ _, hB⟩ | exact Below.refl _ _
        · simp at hq; subst hq
          have g29 : act.tmps[29]?.getD undef = .string (((TP ++ (⟨#[59]⟩))) ++ TA) := hI.has 6 29 rfl (hall ⟨6, .data⟩ (by simp) rfl)
          clear hI hall hnot hcl
          refine .inl ⟨wanted_none rfl, ?_⟩
          unfold Oper.wp
          go_simp
          rw [if_neg (by omega)]
          go_simp
          all_goals first | exact ⟨_, rfl, Below.refl _ _, rfl, hB⟩ | exact ⟨Below.refl _ _, hB⟩ | exact Below.refl _ _
        · simp at hq; subst hq
          have g1 : act.tmps[1]?.getD undef = .pointer (some ⟨BB, 0, none⟩) := hI.kept 1 (by kernel_rfl)
          clear hI hall hnot hcl
          refine .inl ⟨wanted_none rfl, ?_⟩
          unfold Oper.wp
          go_simp
          all_goals first | exact ⟨_, rfl, Below.refl _ _, rfl, hB⟩ | exact ⟨Below.refl _ _, hB⟩ | exact Below.refl _ _
        · simp at hq; subst hq
          have g31 : act.tmps[31]?.getD undef = .pointer (some ⟨BB, 4, none⟩) := hI.has 8 31 rfl (hall ⟨8, .data⟩ (by simp) rfl)
          clear hI hall hnot hcl
          refine .inl ⟨wanted_none rfl, ?_⟩
          unfold Oper.wp
          go_simp
          all_goals first | exact ⟨_, rfl, Below.refl _ _, rfl, hB⟩ | exact ⟨Below.refl _ _, hB⟩ | exact Below.refl _ _
        · simp at hq; subst hq
          have g32 : act.tmps[32]?.getD undef = .int .i64 c := hI.has 9 32 rfl (hall ⟨9, .data⟩ (by simp) rfl)
          clear hI hall hnot hcl
          refine .inl ⟨wanted_none rfl, ?_⟩
          unfold Oper.wp
          go_simp
          refine (HCB.out _ (below_of HB0.out HB0.out.size (below_of HB.out HB.out.size hB))).mono ?_
          rintro e w4 ⟨rfl, b4⟩
          exact ⟨_, rfl, b4, rfl, below_of hB hB.size b4⟩
        · simp at hq; subst hq
          have g30 : act.tmps[30]?.getD undef = .string (((((TP ++ (⟨#[59]⟩))) ++ TA)) ++ (⟨#[59]⟩)) := hI.has 7 30 rfl (hall ⟨7, .data⟩ (by simp) rfl)
          have g33 : act.tmps[33]?.getD undef = .string TB := hI.has 10 33 rfl (hall ⟨10, .data⟩ (by simp) rfl)
          clear hI hall hnot hcl
          refine .inl ⟨wanted_none rfl, ?_⟩
          unfold Oper.wp
          go_simp
          rw [if_neg (by omega)]
          go_simp
          all_goals first | exact ⟨_, rfl, Below.refl _ _, rfl, hB⟩ | exact ⟨Below.refl _ _, hB⟩ | exact Below.refl _ _
        · simp at hq; subst hq
          have g34 : act.tmps[34]?.getD undef = .string (((((((TP ++ (⟨#[59]⟩))) ++ TA)) ++ (⟨#[59]⟩))) ++ TB) := hI.has 11 34 rfl (hall ⟨11, .data⟩ (by simp) rfl)
          clear hI hall hnot hcl
          refine .inl ⟨wanted_none rfl, ?_⟩
          unfold Oper.wp
          go_simp
          rw [if_neg (by omega)]
          go_simp
          all_goals first | exact ⟨_, rfl, Below.refl _ _, rfl, hB⟩ | exact ⟨Below.refl _ _, hB⟩ | exact Below.refl _ _
        · simp at hq; subst hq
          have g1 : act.tmps[1]?.getD undef = .pointer (some ⟨BB, 0, none⟩) := hI.kept 1 (by kernel_rfl)
          clear hI hall hnot hcl
          refine .inl ⟨wanted_none rfl, ?_⟩
          unfold Oper.wp
          go_simp
          all_goals first | exact ⟨_, rfl, Below.refl _ _, rfl, hB⟩ | exact ⟨Below.refl _ _, hB⟩ | exact Below.refl _ _
        · simp at hq; subst hq
          have g36 : act.tmps[36]?.getD undef = .pointer (some ⟨BB, 5, none⟩) := hI.has 13 36 rfl (hall ⟨13, .data⟩ (by simp) rfl)
          clear hI hall hnot hcl
          refine .inl ⟨wanted_none rfl, ?_⟩
          unfold Oper.wp
          go_simp
          all_goals first | exact ⟨_, rfl, Below.refl _ _, rfl, hB⟩ | exact ⟨Below.refl _ _, hB⟩ | exact Below.refl _ _
        · simp at hq; subst hq
          have g1 : act.tmps[1]?.getD undef = .pointer (some ⟨BB, 0, none⟩) := hI.kept 1 (by kernel_rfl)
          clear hI hall hnot hcl
          refine .inl ⟨wanted_none rfl, ?_⟩
          unfold Oper.wp
          go_simp
          all_goals first | exact ⟨_, rfl, Below.refl _ _, rfl, hB⟩ | exact ⟨Below.refl _ _, hB⟩ | exact Below.refl _ _
        · simp at hq; subst hq
          have g38 : act.tmps[38]?.getD undef = .pointer (some ⟨BB, 6, none⟩) := hI.has 15 38 rfl (hall ⟨15, .data⟩ (by simp) rfl)
          clear hI hall hnot hcl
          refine .inl ⟨wanted_none rfl, ?_⟩
          unfold Oper.wp
          go_simp
          all_goals first | exact ⟨_, rfl, Below.refl _ _, rfl, hB⟩ | exact ⟨Below.refl _ _, hB⟩ | exact Below.refl _ _
        · simp at hq; subst hq
          have g37 : act.tmps[37]?.getD undef = .float .f32 hub := hI.has 14 37 rfl (hall ⟨14, .data⟩ (by simp) rfl)
          have g39 : act.tmps[39]?.getD undef = .float .f32 tip := hI.has 16 39 rfl (hall ⟨16, .data⟩ (by simp) rfl)
          clear hI hall hnot hcl
          refine .inl ⟨wanted_none rfl, ?_⟩
          unfold Oper.wp
          go_simp
          first | exact ⟨_, rfl, (Below.refl _ _).alloc (Nat.le_refl _) _, ⟨_, rfl, fl_lit _ [hub, tip] _⟩, hB.alloc hB.size _⟩ | exact ⟨_, rfl, (Below.refl _ _).alloc (Nat.le_refl _) _, ⟨_, rfl, fl_lit _ [hub, tip] _⟩⟩
        · simp at hq; subst hq
          obtain ⟨q17, g40, h17a⟩ := hI.has 17 40 rfl (hall ⟨17, .data⟩ (by simp) rfl)
          clear hI hall hnot hcl
          refine .inl ⟨wanted_none rfl, ?_⟩
          unfold Oper.wp
          go_simp
          refine (HCC.out _ q17 (below_of HB0.out HB0.out.size (below_of HB.out HB.out.size hB)) h17a).mono ?_
          rintro e w4 ⟨rfl, b4⟩
          exact ⟨_, rfl, b4, rfl, below_of hB hB.size b4⟩
        · simp at hq; subst hq
          have g35 : act.tmps[35]?.getD undef = .string (((((((((TP ++ (⟨#[59]⟩))) ++ TA)) ++ (⟨#[59]⟩))) ++ TB)) ++ (⟨#[59]⟩)) := hI.has 12 35 rfl (hall ⟨12, .data⟩ (by simp) rfl)
          have g41 : act.tmps[41]?.getD undef = .string TC := hI.has 18 41 rfl (hall ⟨18, .data⟩ (by simp) rfl)
          clear hI hall hnot hcl
          refine .inl ⟨wanted_none rfl, ?_⟩
          unfold Oper.wp
          go_simp
          rw [if_neg (by omega)]
          go_simp
          all_goals first | exact ⟨_, rfl, Below.refl _ _, rfl, hB⟩ | exact ⟨Below.refl _ _, hB⟩ | exact Below.refl _ _
        · simp at hq; subst hq
          have g42 : act.tmps[42]?.getD undef = .string (((((((((((TP ++ (⟨#[59]⟩))) ++ TA)) ++ (⟨#[59]⟩))) ++ TB)) ++ (⟨#[59]⟩))) ++ TC) := hI.has 19 42 rfl (hall ⟨19, .data⟩ (by simp) rfl)
          clear hI hall hnot hcl
          refine .inl ⟨wanted_none rfl, ?_⟩
          unfold Oper.wp
          go_simp
          all_goals first | exact ⟨_, rfl, Below.refl _ _, rfl, hB⟩ | exact ⟨Below.refl _ _, hB⟩ | exact Below.refl _ _
        · simp at hq
      case hend =>
        intro listed act w3 hI hall
        have hB := hI.cls
        obtain ⟨k0, k1, k2, k3, k4, k5, k6⟩ := blkL7 ((HK.out.below HB.out).below hB)
        have g2 : act.tmps[2]?.getD undef = .string (((((((((((TP ++ (⟨#[59]⟩))) ++ TA)) ++ (⟨#[59]⟩))) ++ TB)) ++ (⟨#[59]⟩))) ++ TC) := hI.has 20 2 rfl (hall 20 (by decide))
        have g0 := hI.kept 0 (by kernel_rfl)
        conv at g0 => rhs; whnf
        have g1 := hI.kept 1 (by kernel_rfl)
        conv at g1 => rhs; whnf
        have g3 := hI.kept 3 (by kernel_rfl)
        conv at g3 => rhs; whnf
        have g4 : act.tmps[4]?.getD undef = undef := hI.kept 4 (by kernel_rfl)
        have g5 := hI.kept 5 (by kernel_rfl)
        conv at g5 => rhs; whnf
        have g6 := hI.kept 6 (by kernel_rfl)
        conv at g6 => rhs; whnf
        have g7 := hI.kept 7 (by kernel_rfl)
        conv at g7 => rhs; whnf
        have g8 := hI.kept 8 (by kernel_rfl)
        conv at g8 => rhs; whnf
        have g9 := hI.kept 9 (by kernel_rfl)
        conv at g9 => rhs; whnf
        have g10 := hI.kept 10 (by kernel_rfl)
        conv at g10 => rhs; whnf
        have g11 := hI.kept 11 (by kernel_rfl)
        conv at g11 => rhs; whnf
        have g12 := hI.kept 12 (by kernel_rfl)
        conv at g12 => rhs; whnf
        have g13 := hI.kept 13 (by kernel_rfl)
        conv at g13 => rhs; whnf
        have g14 := hI.kept 14 (by kernel_rfl)
        conv at g14 => rhs; whnf
        have g15 := hI.kept 15 (by kernel_rfl)
        conv at g15 => rhs; whnf
        have g16 := hI.kept 16 (by kernel_rfl)
        conv at g16 => rhs; whnf
        have g17 := hI.kept 17 (by kernel_rfl)
        conv at g17 => rhs; whnf
        have g18 := hI.kept 18 (by kernel_rfl)
        conv at g18 => rhs; whnf
        have g19 := hI.kept 19 (by kernel_rfl)
        conv at g19 => rhs; whnf
        have g20 := hI.kept 20 (by kernel_rfl)
        conv at g20 => rhs; whnf
        have g21 := hI.kept 21 (by kernel_rfl)
        conv at g21 => rhs; whnf
        have g22 := hI.kept 22 (by kernel_rfl)
        conv at g22 => rhs; whnf
        have hsz : act.tmps.size = 43 := hI.size.trans (by kernel_rfl)
        have hd := hI.defers
        clear hI hall
        obtain ⟨tt, dd⟩ := act
        simp only at g0 g1 g2 g3 g4 g5 g6 g7 g8 g9 g10 g11 g12 g13 g14 g15 g16 g17 g18 g19 g20 g21 g22 hsz hd
        subst hd
        have hl : tt = #[tt[0]?.getD undef, tt[1]?.getD undef, tt[2]?.getD undef, tt[3]?.getD undef, tt[4]?.getD undef, tt[5]?.getD undef, tt[6]?.getD undef, tt[7]?.getD undef, tt[8]?.getD undef, tt[9]?.getD undef, tt[10]?.getD undef, tt[11]?.getD undef, tt[12]?.getD undef, tt[13]?.getD undef, tt[14]?.getD undef, tt[15]?.getD undef, tt[16]?.getD undef, tt[17]?.getD undef, tt[18]?.getD undef, tt[19]?.getD undef, tt[20]?.getD undef, tt[21]?.getD undef, tt[22]?.getD undef, tt[23]?.getD undef, tt[24]?.getD undef, tt[25]?.getD undef, tt[26]?.getD undef, tt[27]?.getD undef, tt[28]?.getD undef, tt[29]?.getD undef, tt[30]?.getD undef, tt[31]?.getD undef, tt[32]?.getD undef, tt[33]?.getD undef, tt[34]?.getD undef, tt[35]?.getD undef, tt[36]?.getD undef, tt[37]?.getD undef, tt[38]?.getD undef, tt[39]?.getD undef, tt[40]?.getD undef, tt[41]?.getD undef, tt[42]?.getD undef] := (arr_lit hsz).trans rfl
        rw [g0, g1, g2, g3, g4, g5, g6, g7, g8, g9, g10, g11, g12, g13, g14, g15, g16, g17, g18, g19, g20, g21, g22] at hl
        clear g0 g1 g2 g3 g4 g5 g6 g7 g8 g9 g10 g11 g12 g13 g14 g15 g16 g17 g18 g19 g20 g21 g22 hsz
        generalize tt[23]?.getD undef = y23 at hl
        generalize tt[24]?.getD undef = y24 at hl
        generalize tt[25]?.getD undef = y25 at hl
        generalize tt[26]?.getD undef = y26 at hl
        generalize tt[27]?.getD undef = y27 at hl
        generalize tt[28]?.getD undef = y28 at hl
        generalize tt[29]?.getD undef = y29 at hl
        generalize tt[30]?.getD undef = y30 at hl
        generalize tt[31]?.getD undef = y31 at hl
        generalize tt[32]?.getD undef = y32 at hl
        generalize tt[33]?.getD undef = y33 at hl
        generalize tt[34]?.getD undef = y34 at hl
        generalize tt[35]?.getD undef = y35 at hl
        generalize tt[36]?.getD undef = y36 at hl
        generalize tt[37]?.getD undef = y37 at hl
        generalize tt[38]?.getD undef = y38 at hl
        generalize tt[39]?.getD undef = y39 at hl
        generalize tt[40]?.getD undef = y40 at hl
        generalize tt[41]?.getD undef = y41 at hl
        generalize tt[42]?.getD undef = y42 at hl
        subst hl
        go_wp2
        go_ret
        exact ⟨by rw [HS.out]; rfl, below_of HB0.out HB0.out.size (below_of HB.out HB.out.size hB)⟩
set_option maxHeartbeats 8000000 in
set_option maxRecDepth 100000 in
theorem s_l08Rotor (A L D S : Option Addr) (ca cl cd n cs : Nat) (c : Int) (hub tip : Nat) (a l d s : List Nat) (BB : Nat) (w : World) (hk : BlkL w BB [.slice A a.length ca, .slice L l.length cl, .slice D d.length cd, .slice S n cs, .int .i64 c, .float .f32 hub, .float .f32 tip]) (h : Rt w A L D S a l d s) (hs : s.length = n * 3) (hz : sized a l d) (hn12 : n ≤ 12) (hw : (∀ x ∈ a, canon .f32 x < 4294967296) ∧ (∀ x ∈ l, canon .f32 x < 4294967296) ∧ ∀ x ∈ d, canon .f32 x < 4294967296) (hws : (∀ x ∈ s, canon .f32 x < 4294967296) ∧ ∀ x ∈ [hub, tip], canon .f32 x < 4294967296) (hi : -9223372036854775808 ≤ c ∧ c ≤ 9223372036854775807) :
    Calls Tryd.prog 53 #[.pointer (some ⟨BB, 0, none⟩)] w fun e w' => e = .returned (.string (rotS a l d s c hub tip)) ∧ Below w.heap.size w w' := by
  have HCP : Hid (∀ W, Below w.heap.size w W → Calls Tryd.prog 45 #[.pointer (some ⟨BB, 0, none⟩)] W fun e w' => e = .returned (.string (profS a l d)) ∧ Below W.heap.size W w') := Lib.hid (fun W hb => s_l08Profile A L D ca cl cd a l d BB W (prof_of (hk.below hb)) (h.1.below hb) hz hw)
  have zP : (profS a l d).size ≤ 3000 := profS_size hz
  have HCA : Hid (∀ W A2 cap2, Below w.heap.size w W → Fl W A2 s → Calls Tryd.prog 91 #[.slice A2 s.length cap2] W fun e w' => e = .returned (.string (textS s)) ∧ Below W.heap.size W w') := Lib.hid (fun W A2 cap2 hb hf => s_l01NText A2 cap2 s W hf (by omega) hws.1)
  have zA : (textS s).size ≤ 3000 := by have h1 := textS_size s; omega
  have HCB : Hid (∀ W, Below w.heap.size w W → Calls Tryd.prog 100 #[.int .i64 c] W fun e w' => e = .returned (.string (decS c)) ∧ Below W.heap.size W w') := Lib.hid (fun W hb => s_l01Dec c W hi.1 hi.2)
  have zB : (decS c).size ≤ 3000 := Nat.le_trans (itoa_size c hi.1 hi.2) (by decide)
  have HCC : Hid (∀ W g, Below w.heap.size w W → Fl W (some ⟨g, 0, none⟩) [hub, tip] → Calls Tryd.prog 91 #[.slice (some ⟨g, 0, none⟩) 2 2] W fun e w' => e = .returned (.string (textS [hub, tip])) ∧ Below W.heap.size W w') := Lib.hid (fun W g hb hf => s_l01NText _ 2 [hub, tip] W hf (len2 ..) hws.2)
  have zC : (textS [hub, tip]).size ≤ 3000 := by have h1 := textS_size [hub, tip]; have h2 : [hub, tip].length ≤ 256 := (len2 ..); omega
  have HS : Hid (rotS a l d s c hub tip = profS a l d ++ ⟨#[59]⟩ ++ textS s ++ ⟨#[59]⟩ ++ decS c ++ ⟨#[59]⟩ ++ textS [hub, tip]) := rfl
  generalize rotS a l d s c hub tip = res at HS ⊢
  generalize profS a l d = TP at HCP zP HS
  generalize textS s = TA at HCA zA HS
  generalize decS c = TB at HCB zB HS
  generalize textS [hub, tip] = TC at HCC zC HS
  obtain ⟨i0, hi0, hz0, hz1, hz2⟩ := info_parts f32_info
  have HI := Lib.hid hi0
  have HZ0 := Lib.hid hz0
  have HZ1 := Lib.hid hz1
  have HZ2 := Lib.hid hz2
  clear hi0 hz0 hz1 hz2
  have HN12 := Lib.hid hn12
  have HSL := Lib.hid hs
  have HK := Lib.hid hk
  have HF := Lib.hid h.2
  clear h hs hz hw hws hi hk
  have HST : Hid (Gr (w.alloc (.cells #[] 33)) w.heap.size (.slice (some ⟨w.heap.size, 0, none⟩) 0 0) []) := Lib.hid (Gr.made _ _ 0 #[] (Nat.le_refl _) (by unfold maxLen; omega) rfl)
  have HB0 : Hid (Below w.heap.size w (w.alloc (.cells #[] 33))) := Lib.hid ((Below.refl _ _).alloc (Nat.le_refl _) _)
  go_enter Tryd.func53, Tryd.ntmps53
  go_wp2_with fail
  go_loopw [3, 4] (fun v i wr => ∃ (k : Nat), k ≤ n ∧ i = .int .i64 k ∧ Hid (Gr wr w.heap.size v (s.take (k * 3))) ∧ Hid (Below w.heap.size w wr)) (fun _ i _ => n - (intOf i).toNat)
  case atStart => exact ⟨0, Nat.zero_le _, rfl, Lib.hid (by rw [Nat.zero_mul, List.take_zero]; exact HST.out), HB0⟩
  case round =>
    obtain ⟨k, hk, rfl, HG, HB⟩ := hrel
    have hst := (blkL7 (HK.out.below HB.out)).2.2.2.1
    by_cases hlt : k < n
    · have h3 : k * 3 + 2 < s.length := by have := HSL.out; omega
      obtain ⟨b, off, rfl, -, hc0⟩ := (HF.out.below HB.out).at_ (k := k * 3) (by omega)
      have hc1 := (HF.out.below HB.out).same rfl (k := k * 3 + 1) (by omega)
      have hc2 := (HF.out.below HB.out).same rfl (k := k * 3 + 2) (by omega)
      rw [← Nat.add_assoc] at hc1 hc2
      have HTK := Lib.hid (take3 s k h3)
      have HLN : Hid ((s.take (k * 3)).length = k * 3) := Lib.hid (by rw [List.length_take]; omega)
      generalize s.getD (k * 3) 0 = x at hc0 HTK
      generalize s.getD (k * 3 + 1) 0 = y at hc1 HTK
      generalize s.getD (k * 3 + 2) 0 = z at hc2 HTK
      generalize s.take (k * 3) = ys at HG HTK HLN
      have HGd : Hid (Gr wr.drew w.heap.size _ ys) := Lib.hid (HG.out.draws 1)
      have HBd : Hid (Below w.heap.size w wr.drew) := Lib.hid HB.out.drew
      have HM : Hid (Below w.heap.size w (wr.drew.alloc (.cells #[.float .f32 x, .float .f32 y, .float .f32 z] 33))) := Lib.hid (HBd.out.alloc HBd.out.size _)
      have HCE : Hid (∀ j u, [Value.float .f32 x, .float .f32 y, .float .f32 z][j]? = some u → (wr.drew.alloc (.cells #[.float .f32 x, .float .f32 y, .float .f32 z] 33)).cell? (Addr.add ⟨wr.heap.size, 0, none⟩ j) = some u) := Lib.hid (fun j u hj => by
        rw [addr_add', Nat.zero_add]
        refine (World.cell?_alloc_at (w := wr.drew) #[.float .f32 x, .float .f32 y, .float .f32 z] 33 wr.heap.size j rfl).trans ?_
        match j, hj with
        | 0, hj => simpa using hj
        | 1, hj => simpa using hj
        | 2, hj => simpa using hj
        | j + 3, hj => simp at hj)
      go_wp2_with fail
      clear hst
      refine wp_region_inv6 (fun iq wv v => match iq with
        | 0 => v = u3
        | 1 => v = .pointer (some ⟨b, off + k * 3, none⟩)
        | 2 => v = .pointer (some ⟨b, off + k * 3, none⟩)
        | 3 => v = .pointer (some ⟨b, off + k * 3, none⟩)
        | 4 => v = .float .f32 x
        | 5 => v = .pointer (some ⟨b, off + k * 3, none⟩)
        | 6 => v = .pointer (some ⟨b, off + k * 3, none⟩)
        | 7 => v = .pointer (some ⟨b, off + k * 3 + 1, none⟩)
        | 8 => v = .float .f32 y
        | 9 => v = .pointer (some ⟨b, off + k * 3, none⟩)
        | 10 => v = .pointer (some ⟨b, off + k * 3, none⟩)
        | 11 => v = .pointer (some ⟨b, off + k * 3 + 2, none⟩)
        | 12 => v = .float .f32 z
        | 13 => v = .slice (some ⟨wr.heap.size, 0, none⟩) 3 3
        | 14 => Gr wv w.heap.size v (ys ++ [x, y, z]) ∧ Below w.heap.size w wv
        | 15 => Gr wv w.heap.size v (ys ++ [x, y, z]) ∧ Below w.heap.size w wv
        | _ => False) (CC6 wr.drew (wr.drew.alloc (.cells #[.float .f32 x, .float .f32 y, .float .f32 z] 33))) (by kernel_rfl) (by kernel_rfl) (CC6.start _ _ _) ?hop6 ?hend6
      case hop6 =>
        intro q o hq listed act w3 hI hnot hcl hall
        have hC := hI.cls
        rcases q with _ | _ | _ | _ | _ | _ | _ | _ | _ | _ | _ | _ | _ | _ | _ | _ | q
        · simp at hq; subst hq
          have hnl : listed.getD 15 false = false := hcl.not (j := 15) (i := 0) (e := ⟨0, .phase⟩) rfl (by simp) rfl rfl hnot
          have g3 : act.tmps[3]?.getD undef = u3 := hI.keptN 3 15 (by kernel_rfl) hnl
          have hC2 := hC.keep (i := 0) hI.len (by decide) (by decide) (by decide)
          clear hI hall hnot hcl hC
          refine .inl ⟨wanted_none rfl, ?_⟩
          unfold Oper.wp
          go_simp
          first | exact ⟨_, rfl, fun _ _ _ h => h, rfl, hC2⟩ | exact ⟨_, rfl, rfl, hC2⟩ | exact ⟨rfl, hC2⟩ | exact hC2 | exact ⟨_, rfl, hC2⟩ | exact ⟨fun _ _ _ h => h, rfl, hC2⟩
        · simp at hq; subst hq
          have g5 : act.tmps[5]?.getD undef = .pointer (some ⟨b, off + k * 3, none⟩) := hI.kept 5 (by kernel_rfl)
          have hC2 := hC.keep (i := 1) hI.len (by decide) (by decide) (by decide)
          clear hI hall hnot hcl hC
          refine .inl ⟨wanted_none rfl, ?_⟩
          unfold Oper.wp
          go_simp
          first | exact ⟨_, rfl, fun _ _ _ h => h, rfl, hC2⟩ | exact ⟨_, rfl, rfl, hC2⟩ | exact ⟨rfl, hC2⟩ | exact hC2 | exact ⟨_, rfl, hC2⟩ | exact ⟨fun _ _ _ h => h, rfl, hC2⟩
        · simp at hq; subst hq
          have g23 : act.tmps[23]?.getD undef = .pointer (some ⟨b, off + k * 3, none⟩) := hI.has 1 23 rfl (hall ⟨1, .data⟩ (by simp) rfl)
          have hC2 := hC.keep (i := 2) hI.len (by decide) (by decide) (by decide)
          clear hI hall hnot hcl hC
          refine .inl ⟨wanted_none rfl, ?_⟩
          unfold Oper.wp
          go_simp
          first | exact ⟨_, rfl, fun _ _ _ h => h, rfl, hC2⟩ | exact ⟨_, rfl, rfl, hC2⟩ | exact ⟨rfl, hC2⟩ | exact hC2 | exact ⟨_, rfl, hC2⟩ | exact ⟨fun _ _ _ h => h, rfl, hC2⟩
        · simp at hq; subst hq
          have g24 : act.tmps[24]?.getD undef = .pointer (some ⟨b, off + k * 3, none⟩) := hI.has 2 24 rfl (hall ⟨2, .data⟩ (by simp) rfl)
          have hC2 := hC.keep (i := 3) hI.len (by decide) (by decide) (by decide)
          clear hI hall hnot hcl hC
          refine .inl ⟨wanted_none rfl, ?_⟩
          unfold Oper.wp
          go_simp
          first | exact ⟨_, rfl, fun _ _ _ h => h, rfl, hC2⟩ | exact ⟨_, rfl, rfl, hC2⟩ | exact ⟨rfl, hC2⟩ | exact hC2 | exact ⟨_, rfl, hC2⟩ | exact ⟨fun _ _ _ h => h, rfl, hC2⟩
        · simp at hq; subst hq
          have g25 : act.tmps[25]?.getD undef = .pointer (some ⟨b, off + k * 3, none⟩) := hI.has 3 25 rfl (hall ⟨3, .data⟩ (by simp) rfl)
          have hl13 : listed.getD 13 false = false := hcl.not (j := 13) (i := 4) (e := ⟨4, .data⟩) rfl (by simp) rfl rfl hnot
          have hC2 := hC.keep (i := 4) hI.len (by decide) (by decide) (by decide)
          obtain rfl := hC.1 hl13
          clear hI hall hnot hcl hC
          refine .inl ⟨wanted_none rfl, ?_⟩
          unfold Oper.wp
          go_simp
          first | exact ⟨_, rfl, fun _ _ _ h => h, rfl, hC2⟩ | exact ⟨_, rfl, rfl, hC2⟩ | exact ⟨rfl, hC2⟩ | exact hC2 | exact ⟨_, rfl, hC2⟩ | exact ⟨fun _ _ _ h => h, rfl, hC2⟩
        · simp at hq; subst hq
          have g5 : act.tmps[5]?.getD undef = .pointer (some ⟨b, off + k * 3, none⟩) := hI.kept 5 (by kernel_rfl)
          have hC2 := hC.keep (i := 5) hI.len (by decide) (by decide) (by decide)
          clear hI hall hnot hcl hC
          refine .inl ⟨wanted_none rfl, ?_⟩
          unfold Oper.wp
          go_simp
          first | exact ⟨_, rfl, fun _ _ _ h => h, rfl, hC2⟩ | exact ⟨_, rfl, rfl, hC2⟩ | exact ⟨rfl, hC2⟩ | exact hC2 | exact ⟨_, rfl, hC2⟩ | exact ⟨fun _ _ _ h => h, rfl, hC2⟩
        · simp at hq; subst hq
          have g27 : act.tmps[27]?.getD undef = .pointer (some ⟨b, off + k * 3, none⟩) := hI.has 5 27 rfl (hall ⟨5, .data⟩ (by simp) rfl)
          have hC2 := hC.keep (i := 6) hI.len (by decide) (by decide) (by decide)
          clear hI hall hnot hcl hC
          refine .inl ⟨wanted_none rfl, ?_⟩
          unfold Oper.wp
          go_simp
          first | exact ⟨_, rfl, fun _ _ _ h => h, rfl, hC2⟩ | exact ⟨_, rfl, rfl, hC2⟩ | exact ⟨rfl, hC2⟩ | exact hC2 | exact ⟨_, rfl, hC2⟩ | exact ⟨fun _ _ _ h => h, rfl, hC2⟩
        · simp at hq; subst hq
          have g28 : act.tmps[28]?.getD undef = .pointer (some ⟨b, off + k * 3, none⟩) := hI.has 6 28 rfl (hall ⟨6, .data⟩ (by simp) rfl)
          have hC2 := hC.keep (i := 7) hI.len (by decide) (by decide) (by decide)
          clear hI hall hnot hcl hC
          refine .inl ⟨wanted_none rfl, ?_⟩
          unfold Oper.wp
          go_simp
          first | exact ⟨_, rfl, fun _ _ _ h => h, rfl, hC2⟩ | exact ⟨_, rfl, rfl, hC2⟩ | exact ⟨rfl, hC2⟩ | exact hC2 | exact ⟨_, rfl, hC2⟩ | exact ⟨fun _ _ _ h => h, rfl, hC2⟩
        · simp at hq; subst hq
          have g29 : act.tmps[29]?.getD undef = .pointer (some ⟨b, off + k * 3 + 1, none⟩) := hI.has 7 29 rfl (hall ⟨7, .data⟩ (by simp) rfl)
          have hl13 : listed.getD 13 false = false := hcl.not (j := 13) (i := 8) (e := ⟨8, .data⟩) rfl (by simp) rfl rfl hnot
          have hC2 := hC.keep (i := 8) hI.len (by decide) (by decide) (by decide)
          obtain rfl := hC.1 hl13
          clear hI hall hnot hcl hC
          refine .inl ⟨wanted_none rfl, ?_⟩
          unfold Oper.wp
          go_simp
          first | exact ⟨_, rfl, fun _ _ _ h => h, rfl, hC2⟩ | exact ⟨_, rfl, rfl, hC2⟩ | exact ⟨rfl, hC2⟩ | exact hC2 | exact ⟨_, rfl, hC2⟩ | exact ⟨fun _ _ _ h => h, rfl, hC2⟩
        · simp at hq; subst hq
          have g5 : act.tmps[5]?.getD undef = .pointer (some ⟨b, off + k * 3, none⟩) := hI.kept 5 (by kernel_rfl)
          have hC2 := hC.keep (i := 9) hI.len (by decide) (by decide) (by decide)
          clear hI hall hnot hcl hC
          refine .inl ⟨wanted_none rfl, ?_⟩
          unfold Oper.wp
          go_simp
          first | exact ⟨_, rfl, fun _ _ _ h => h, rfl, hC2⟩ | exact ⟨_, rfl, rfl, hC2⟩ | exact ⟨rfl, hC2⟩ | exact hC2 | exact ⟨_, rfl, hC2⟩ | exact ⟨fun _ _ _ h => h, rfl, hC2⟩
        · simp at hq; subst hq
          have g31 : act.tmps[31]?.getD undef = .pointer (some ⟨b, off + k * 3, none⟩) := hI.has 9 31 rfl (hall ⟨9, .data⟩ (by simp) rfl)
          have hC2 := hC.keep (i := 10) hI.len (by decide) (by decide) (by decide)
          clear hI hall hnot hcl hC
          refine .inl ⟨wanted_none rfl, ?_⟩
          unfold Oper.wp
          go_simp
          first | exact ⟨_, rfl, fun _ _ _ h => h, rfl, hC2⟩ | exact ⟨_, rfl, rfl, hC2⟩ | exact ⟨rfl, hC2⟩ | exact hC2 | exact ⟨_, rfl, hC2⟩ | exact ⟨fun _ _ _ h => h, rfl, hC2⟩
        · simp at hq; subst hq
          have g32 : act.tmps[32]?.getD undef = .pointer (some ⟨b, off + k * 3, none⟩) := hI.has 10 32 rfl (hall ⟨10, .data⟩ (by simp) rfl)
          have hC2 := hC.keep (i := 11) hI.len (by decide) (by decide) (by decide)
          clear hI hall hnot hcl hC
          refine .inl ⟨wanted_none rfl, ?_⟩
          unfold Oper.wp
          go_simp
          first | exact ⟨_, rfl, fun _ _ _ h => h, rfl, hC2⟩ | exact ⟨_, rfl, rfl, hC2⟩ | exact ⟨rfl, hC2⟩ | exact hC2 | exact ⟨_, rfl, hC2⟩ | exact ⟨fun _ _ _ h => h, rfl, hC2⟩
        · simp at hq; subst hq
          have g33 : act.tmps[33]?.getD undef = .pointer (some ⟨b, off + k * 3 + 2, none⟩) := hI.has 11 33 rfl (hall ⟨11, .data⟩ (by simp) rfl)
          have hl13 : listed.getD 13 false = false := hcl.not (j := 13) (i := 12) (e := ⟨12, .data⟩) rfl (by simp) rfl rfl hnot
          have hC2 := hC.keep (i := 12) hI.len (by decide) (by decide) (by decide)
          obtain rfl := hC.1 hl13
          clear hI hall hnot hcl hC
          refine .inl ⟨wanted_none rfl, ?_⟩
          unfold Oper.wp
          go_simp
          first | exact ⟨_, rfl, fun _ _ _ h => h, rfl, hC2⟩ | exact ⟨_, rfl, rfl, hC2⟩ | exact ⟨rfl, hC2⟩ | exact hC2 | exact ⟨_, rfl, hC2⟩ | exact ⟨fun _ _ _ h => h, rfl, hC2⟩
        · simp at hq; subst hq
          have g26 : act.tmps[26]?.getD undef = .float .f32 x := hI.has 4 26 rfl (hall ⟨4, .data⟩ (by simp) rfl)
          have g30 : act.tmps[30]?.getD undef = .float .f32 y := hI.has 8 30 rfl (hall ⟨8, .data⟩ (by simp) rfl)
          have g34 : act.tmps[34]?.getD undef = .float .f32 z := hI.has 12 34 rfl (hall ⟨12, .data⟩ (by simp) rfl)
          have hl14 : listed.getD 14 false = false := hcl.not (j := 14) (i := 13) (e := ⟨13, .data⟩) rfl (by simp) rfl rfl hnot
          have hl15 : listed.getD 15 false = false := hcl.not (j := 15) (i := 14) (e := ⟨14, .data⟩) rfl (by simp) rfl rfl hl14
          have hC2 := hC.make hI.len (by decide) hl14
          obtain rfl := hC.1 hnot
          clear hI hall hnot hcl hC
          refine .inl ⟨wanted_none rfl, ?_⟩
          unfold Oper.wp
          go_simp
          refine ⟨_, rfl, fun j u hj hV => ?_, by first | rfl | simp, hC2⟩
          rcases j with _ | _ | _ | _ | _ | _ | _ | _ | _ | _ | _ | _ | _ | _ | _ | _ | j
          · exact hV
          · exact hV
          · exact hV
          · exact hV
          · exact hV
          · exact hV
          · exact hV
          · exact hV
          · exact hV
          · exact hV
          · exact hV
          · exact hV
          · exact hV
          · exact hV
          · rw [Array.getD_eq_getD_getElem?] at hl14; exact Bool.noConfusion (hl14.symm.trans hj)
          · rw [Array.getD_eq_getD_getElem?] at hl15; exact Bool.noConfusion (hl15.symm.trans hj)
          · exact hV
        · simp at hq; subst hq
          have g22 : act.tmps[22]?.getD undef = u3 := hI.has 0 22 rfl (hall ⟨0, .data⟩ (by simp) rfl)
          have g35 : act.tmps[35]?.getD undef = .slice (some ⟨wr.heap.size, 0, none⟩) 3 3 := hI.has 13 35 rfl (hall ⟨13, .data⟩ (by simp) rfl)
          have hl13 : listed.getD 13 false = true := hall ⟨13, .data⟩ (by simp) rfl
          have hl15 : listed.getD 15 false = false := hcl.not (j := 15) (i := 14) (e := ⟨14, .data⟩) rfl (by simp) rfl rfl hnot
          have hC2 := hC.app hI.len (by decide) hl13
          obtain rfl := hC.2 hl13 hnot
          have hnot2 : listed.getD 14 false = false := hnot
          clear hI hall hnot hcl hC hl13
          refine .inl ⟨wanted_none rfl, ?_⟩
          have hown := HGd.out
          unfold Gr at hown
          refine wp_append_own _ (.tmp 22) (.tmp 35) 22 rfl w.heap.size 33 i0 (.float .f32 0) 1 4 Tryd.underlying22 HI.out HZ0.out HZ1.out HZ2.out rfl (by decide) u3 _ _ (by simp [Act.eval, g22]) (hown.alloc _) ⟨wr.heap.size, 0, none⟩ 3 3 [.float .f32 x, .float .f32 y, .float .f32 z] (by simp [Act.eval, g35]) rfl HCE.out (by intro u hu; simp only [List.mem_cons, List.not_mem_nil, or_false] at hu; rcases hu with rfl | rfl | rfl <;> rfl) (by have h2 := HLN.out; unfold maxLen; omega) (by have h2 := HLN.out; omega) HM.out.size (fun v' w9 hown' hgrow _ => ?_)
          obtain ⟨g2, b2⟩ := Gr.next3 HGd.out HBd.out (Nat.le_refl _) hown' HM.out (by simp) hgrow
          refine ⟨v', rfl, fun j u hj hV => ?_, ⟨g2, b2⟩, hC2 _⟩
          rcases j with _ | _ | _ | _ | _ | _ | _ | _ | _ | _ | _ | _ | _ | _ | _ | _ | j
          · exact hV
          · exact hV
          · exact hV
          · exact hV
          · exact hV
          · exact hV
          · exact hV
          · exact hV
          · exact hV
          · exact hV
          · exact hV
          · exact hV
          · exact hV
          · exact hV
          · exact Bool.noConfusion (hnot2.symm.trans hj)
          · exact Bool.noConfusion (hl15.symm.trans hj)
          · exact hV
        · simp at hq; subst hq
          obtain ⟨g2, b2⟩ := hI.has 14 36 rfl (hall ⟨14, .data⟩ (by simp) rfl)
          generalize g36 : act.tmps[36]?.getD undef = v36 at g2
          have hC2 := hC.keep (i := 15) hI.len (by decide) (by decide) (by decide)
          clear hI hall hnot hcl hC
          refine .inl ⟨wanted_none rfl, ?_⟩
          unfold Oper.wp
          go_simp
          first | exact ⟨_, rfl, fun _ _ _ h => h, ⟨g2, b2⟩, hC2⟩ | exact ⟨_, rfl, ⟨g2, b2⟩, hC2⟩ | exact ⟨⟨g2, b2⟩, hC2⟩ | exact ⟨g2, b2, hC2⟩ | exact ⟨_, rfl, g2, hC2⟩ | exact ⟨g2, hC2⟩ | exact hC2 | exact ⟨_, rfl, fun _ _ _ h => h, g2, hC2⟩ | exact ⟨_, rfl, hC2⟩
        · simp at hq
      case hend6 =>
        intro listed act w9 hI hall
        obtain ⟨g2, b2⟩ := hI.has 15 3 rfl (hall 15 (by decide))
        generalize hv9 : act.tmps[3]?.getD undef = v' at g2
        have g0 := hI.kept 0 (by kernel_rfl)
        conv at g0 => rhs; whnf
        have g1 : act.tmps[1]?.getD undef = undef := hI.kept 1 (by kernel_rfl)
        have g2 := hI.kept 2 (by kernel_rfl)
        conv at g2 => rhs; whnf
        have g6 := hI.kept 6 (by kernel_rfl)
        conv at g6 => rhs; whnf
        have g37 : act.tmps[37]?.getD undef = undef := hI.kept 37 (by kernel_rfl)
        have g38 : act.tmps[38]?.getD undef = undef := hI.kept 38 (by kernel_rfl)
        have g39 : act.tmps[39]?.getD undef = undef := hI.kept 39 (by kernel_rfl)
        have g40 : act.tmps[40]?.getD undef = undef := hI.kept 40 (by kernel_rfl)
        have g41 : act.tmps[41]?.getD undef = undef := hI.kept 41 (by kernel_rfl)
        have g42 : act.tmps[42]?.getD undef = undef := hI.kept 42 (by kernel_rfl)
        have g43 : act.tmps[43]?.getD undef = undef := hI.kept 43 (by kernel_rfl)
        have g44 : act.tmps[44]?.getD undef = undef := hI.kept 44 (by kernel_rfl)
        have g45 : act.tmps[45]?.getD undef = undef := hI.kept 45 (by kernel_rfl)
        have g46 : act.tmps[46]?.getD undef = undef := hI.kept 46 (by kernel_rfl)
        have g47 : act.tmps[47]?.getD undef = undef := hI.kept 47 (by kernel_rfl)
        have g48 : act.tmps[48]?.getD undef = undef := hI.kept 48 (by kernel_rfl)
        have g49 : act.tmps[49]?.getD undef = undef := hI.kept 49 (by kernel_rfl)
        have g50 : act.tmps[50]?.getD undef = undef := hI.kept 50 (by kernel_rfl)
        have g51 : act.tmps[51]?.getD undef = undef := hI.kept 51 (by kernel_rfl)
        have g52 : act.tmps[52]?.getD undef = undef := hI.kept 52 (by kernel_rfl)
        have g53 : act.tmps[53]?.getD undef = undef := hI.kept 53 (by kernel_rfl)
        have g54 : act.tmps[54]?.getD undef = undef := hI.kept 54 (by kernel_rfl)
        have g55 : act.tmps[55]?.getD undef = undef := hI.kept 55 (by kernel_rfl)
        have g56 : act.tmps[56]?.getD undef = undef := hI.kept 56 (by kernel_rfl)
        have g57 : act.tmps[57]?.getD undef = undef := hI.kept 57 (by kernel_rfl)
        have g58 : act.tmps[58]?.getD undef = undef := hI.kept 58 (by kernel_rfl)
        have g59 : act.tmps[59]?.getD undef = undef := hI.kept 59 (by kernel_rfl)
        have g60 : act.tmps[60]?.getD undef = undef := hI.kept 60 (by kernel_rfl)
        have g61 : act.tmps[61]?.getD undef = undef := hI.kept 61 (by kernel_rfl)
        have g62 : act.tmps[62]?.getD undef = undef := hI.kept 62 (by kernel_rfl)
        have g63 : act.tmps[63]?.getD undef = undef := hI.kept 63 (by kernel_rfl)
        have g5 := hI.kept 5 (by kernel_rfl)
        conv at g5 => rhs; whnf
        have g4 := hI.kept 4 (by kernel_rfl)
        conv at g4 => rhs; whnf
        have g3 := hv9
        clear hv9
        have hsz : act.tmps.size = 64 := hI.size.trans (by kernel_rfl)
        have hd := hI.defers
        clear hI hall
        obtain ⟨tt, dd⟩ := act
        simp only at g0 g1 g2 g3 g4 g5 g6 g37 g38 g39 g40 g41 g42 g43 g44 g45 g46 g47 g48 g49 g50 g51 g52 g53 g54 g55 g56 g57 g58 g59 g60 g61 g62 g63 hsz hd
        subst hd
        have hl : tt = #[tt[0]?.getD undef, tt[1]?.getD undef, tt[2]?.getD undef, tt[3]?.getD undef, tt[4]?.getD undef, tt[5]?.getD undef, tt[6]?.getD undef, tt[7]?.getD undef, tt[8]?.getD undef, tt[9]?.getD undef, tt[10]?.getD undef, tt[11]?.getD undef, tt[12]?.getD undef, tt[13]?.getD undef, tt[14]?.getD undef, tt[15]?.getD undef, tt[16]?.getD undef, tt[17]?.getD undef, tt[18]?.getD undef, tt[19]?.getD undef, tt[20]?.getD undef, tt[21]?.getD undef, tt[22]?.getD undef, tt[23]?.getD undef, tt[24]?.getD undef, tt[25]?.getD undef, tt[26]?.getD undef, tt[27]?.getD undef, tt[28]?.getD undef, tt[29]?.getD undef, tt[30]?.getD undef, tt[31]?.getD undef, tt[32]?.getD undef, tt[33]?.getD undef, tt[34]?.getD undef, tt[35]?.getD undef, tt[36]?.getD undef, tt[37]?.getD undef, tt[38]?.getD undef, tt[39]?.getD undef, tt[40]?.getD undef, tt[41]?.getD undef, tt[42]?.getD undef, tt[43]?.getD undef, tt[44]?.getD undef, tt[45]?.getD undef, tt[46]?.getD undef, tt[47]?.getD undef, tt[48]?.getD undef, tt[49]?.getD undef, tt[50]?.getD undef, tt[51]?.getD undef, tt[52]?.getD undef, tt[53]?.getD undef, tt[54]?.getD undef, tt[55]?.getD undef, tt[56]?.getD undef, tt[57]?.getD undef, tt[58]?.getD undef, tt[59]?.getD undef, tt[60]?.getD undef, tt[61]?.getD undef, tt[62]?.getD undef, tt[63]?.getD undef] := (arr_lit hsz).trans rfl
        rw [g0, g1, g2, g3, g4, g5, g6, g37, g38, g39, g40, g41, g42, g43, g44, g45, g46, g47, g48, g49, g50, g51, g52, g53, g54, g55, g56, g57, g58, g59, g60, g61, g62, g63] at hl
        clear g0 g1 g2 g3 g4 g5 g6 g37 g38 g39 g40 g41 g42 g43 g44 g45 g46 g47 g48 g49 g50 g51 g52 g53 g54 g55 g56 g57 g58 g59 g60 g61 g62 g63 hsz
        generalize tt[7]?.getD undef = y7 at hl
        generalize tt[8]?.getD undef = y8 at hl
        generalize tt[9]?.getD undef = y9 at hl
        generalize tt[10]?.getD undef = y10 at hl
        generalize tt[11]?.getD undef = y11 at hl
        generalize tt[12]?.getD undef = y12 at hl
        generalize tt[13]?.getD undef = y13 at hl
        generalize tt[14]?.getD undef = y14 at hl
        generalize tt[15]?.getD undef = y15 at hl
        generalize tt[16]?.getD undef = y16 at hl
        generalize tt[17]?.getD undef = y17 at hl
        generalize tt[18]?.getD undef = y18 at hl
        generalize tt[19]?.getD undef = y19 at hl
        generalize tt[20]?.getD undef = y20 at hl
        generalize tt[21]?.getD undef = y21 at hl
        generalize tt[22]?.getD undef = y22 at hl
        generalize tt[23]?.getD undef = y23 at hl
        generalize tt[24]?.getD undef = y24 at hl
        generalize tt[25]?.getD undef = y25 at hl
        generalize tt[26]?.getD undef = y26 at hl
        generalize tt[27]?.getD undef = y27 at hl
        generalize tt[28]?.getD undef = y28 at hl
        generalize tt[29]?.getD undef = y29 at hl
        generalize tt[30]?.getD undef = y30 at hl
        generalize tt[31]?.getD undef = y31 at hl
        generalize tt[32]?.getD undef = y32 at hl
        generalize tt[33]?.getD undef = y33 at hl
        generalize tt[34]?.getD undef = y34 at hl
        generalize tt[35]?.getD undef = y35 at hl
        generalize tt[36]?.getD undef = y36 at hl
        subst hl
        have HG9 : Hid (Gr w9 w.heap.size v' (s.take ((k + 1) * 3))) := Lib.hid (by rw [HTK.out]; exact g2)
        have HB9 := Lib.hid b2
        clear g2 b2 HM HCE
        go_wp2
        go_roundw
        case rel => exact ⟨k + 1, by omega, by go_num, HG9, HB9⟩
        case measure => simp [intOf]; omega
    · have hkn : k = n := by omega
      have hts : s.take (k * 3) = s := by rw [hkn, ← HSL.out, List.take_length]
      have HG2 := HG.out
      rw [hts] at HG2
      obtain ⟨A2, cap2, bb2, rfl, how⟩ := HG2.own
      have HFS : Hid (Fl wr A2 s) := Lib.hid how.fl
      clear HG how HG2 hts
      go_wp2_with fail
      clear hst
      refine wp_region_inv4 (fun iq wv v => match iq with
        | 0 => v = .pointer (some ⟨BB, 0, none⟩)
        | 1 => v = .pointer (some ⟨BB, 0, none⟩)
        | 2 => v = .pointer (some ⟨BB, 0, none⟩)
        | 3 => v = .string TP
        | 4 => v = .string (TP ++ (⟨#[59]⟩))
        | 5 => v = .slice A2 s.length cap2
        | 6 => v = .string TA
        | 7 => v = .string (((TP ++ (⟨#[59]⟩))) ++ TA)
        | 8 => v = .string (((((TP ++ (⟨#[59]⟩))) ++ TA)) ++ (⟨#[59]⟩))
        | 9 => v = .pointer (some ⟨BB, 0, none⟩)
        | 10 => v = .pointer (some ⟨BB, 0, none⟩)
        | 11 => v = .pointer (some ⟨BB, 4, none⟩)
        | 12 => v = .int .i64 c
        | 13 => v = .string TB
        | 14 => v = .string (((((((TP ++ (⟨#[59]⟩))) ++ TA)) ++ (⟨#[59]⟩))) ++ TB)
        | 15 => v = .string (((((((((TP ++ (⟨#[59]⟩))) ++ TA)) ++ (⟨#[59]⟩))) ++ TB)) ++ (⟨#[59]⟩))
        | 16 => v = .pointer (some ⟨BB, 0, none⟩)
        | 17 => v = .pointer (some ⟨BB, 0, none⟩)
        | 18 => v = .pointer (some ⟨BB, 5, none⟩)
        | 19 => v = .float .f32 hub
        | 20 => v = .pointer (some ⟨BB, 0, none⟩)
        | 21 => v = .pointer (some ⟨BB, 0, none⟩)
        | 22 => v = .pointer (some ⟨BB, 6, none⟩)
        | 23 => v = .float .f32 tip
        | 24 => ∃ q, v = .slice (some ⟨q, 0, none⟩) 2 2 ∧ Fl wv (some ⟨q, 0, none⟩) [hub, tip]
        | 25 => v = .string TC
        | 26 => v = .string (((((((((((TP ++ (⟨#[59]⟩))) ++ TA)) ++ (⟨#[59]⟩))) ++ TB)) ++ (⟨#[59]⟩))) ++ TC)
        | 27 => v = .string (((((((((((TP ++ (⟨#[59]⟩))) ++ TA)) ++ (⟨#[59]⟩))) ++ TB)) ++ (⟨#[59]⟩))) ++ TC)
        | _ => False) (fun _ ww => Below wr.heap.size wr ww) (fun w w' => Below w.heap.size w w') ?hmono (by kernel_rfl) (by kernel_rfl) ((Below.refl _ _).drew) ?hop ?hend
      case hmono =>
        intro i wa wb v hR hV
        rcases i with _ | _ | _ | _ | _ | _ | _ | _ | _ | _ | _ | _ | _ | _ | _ | _ | _ | _ | _ | _ | _ | _ | _ | _ | _ | _ | _ | _ | i
        · exact hV
        · exact hV
        · exact hV
        · exact hV
        · exact hV
        · exact hV
        · exact hV
        · exact hV
        · exact hV
        · exact hV
        · exact hV
        · exact hV
        · exact hV
        · exact hV
        · exact hV
        · exact hV
        · exact hV
        · exact hV
        · exact hV
        · exact hV
        · exact hV
        · exact hV
        · exact hV
        · exact hV
        · obtain ⟨q, rfl, ho⟩ := hV; exact ⟨q, rfl, ho.below hR⟩
        · exact hV
        · exact hV
        · exact hV
        · exact hV
      case hop =>
        intro q o hq listed act w3 hI hnot hcl hall
        have hB := hI.cls
        obtain ⟨k0, k1, k2, k3, k4, k5, k6⟩ := blkL7 ((HK.out.below HB.out).below hB)
        rcases q with _ | _ | _ | _ | _ | _ | _ | _ | _ | _ | _ | _ | _ | _ | _ | _ | _ | _ | _ | _ | _ | _ | _ | _ | _ | _ | _ | _ | q
        · simp at hq; subst hq
          have g0 : act.tmps[0]?.getD undef = .pointer (some ⟨BB, 0, none⟩) := hI.kept 0 (by kernel_rfl)
          clear hI hall hnot hcl
          refine .inl ⟨wanted_none rfl, ?_⟩
          unfold Oper.wp
          go_simp
          all_goals first | exact ⟨_, rfl, Below.refl _ _, rfl, hB⟩ | exact ⟨Below.refl _ _, hB⟩ | exact Below.refl _ _
        · simp at hq; subst hq
          have g37 : act.tmps[37]?.getD undef = .pointer (some ⟨BB, 0, none⟩) := hI.has 0 37 rfl (hall ⟨0, .data⟩ (by simp) rfl)
          clear hI hall hnot hcl
          refine .inl ⟨wanted_none rfl, ?_⟩
          unfold Oper.wp
          go_simp
          all_goals first | exact ⟨_, rfl, Below.refl _ _, rfl, hB⟩ | exact ⟨Below.refl _ _, hB⟩ | exact Below.refl _ _
        · simp at hq; subst hq
          have g38 : act.tmps[38]?.getD undef = .pointer (some ⟨BB, 0, none⟩) := hI.has 1 38 rfl (hall ⟨1, .data⟩ (by simp) rfl)
          clear hI hall hnot hcl
          refine .inl ⟨wanted_none rfl, ?_⟩
          unfold Oper.wp
          go_simp
          all_goals first | exact ⟨_, rfl, Below.refl _ _, rfl, hB⟩ | exact ⟨Below.refl _ _, hB⟩ | exact Below.refl _ _
        · simp at hq; subst hq
          have g39 : act.tmps[39]?.getD undef = .pointer (some ⟨BB, 0, none⟩) := hI.has 2 39 rfl (hall ⟨2, .data⟩ (by simp) rfl)
          clear hI hall hnot hcl
          refine .inl ⟨wanted_none rfl, ?_⟩
          unfold Oper.wp
          go_simp
          refine (HCP.out _ (below_of HB.out HB.out.size hB)).mono ?_
          rintro e w4 ⟨rfl, b4⟩
          exact ⟨_, rfl, b4, rfl, below_of hB hB.size b4⟩
        · simp at hq; subst hq
          have g40 : act.tmps[40]?.getD undef = .string TP := hI.has 3 40 rfl (hall ⟨3, .data⟩ (by simp) rfl)
          clear hI hall hnot hcl
          refine .inl ⟨wanted_none rfl, ?_⟩
          unfold Oper.wp
          go_simp
          rw [if_neg (by omega)]
          go_simp
          all_goals first | exact ⟨_, rfl, Below.refl _ _, rfl, hB⟩ | exact ⟨Below.refl _ _, hB⟩ | exact Below.refl _ _
        · simp at hq; subst hq
          have g3 : act.tmps[3]?.getD undef = .slice A2 s.length cap2 := hI.kept 3 (by kernel_rfl)
          clear hI hall hnot hcl
          refine .inl ⟨wanted_none rfl, ?_⟩
          unfold Oper.wp
          go_simp
          all_goals first | exact ⟨_, rfl, Below.refl _ _, rfl, hB⟩ | exact ⟨Below.refl _ _, hB⟩ | exact Below.refl _ _
        · simp at hq; subst hq
          have g42 : act.tmps[42]?.getD undef = .slice A2 s.length cap2 := hI.has 5 42 rfl (hall ⟨5, .data⟩ (by simp) rfl)
          clear hI hall hnot hcl
          refine .inl ⟨wanted_none rfl, ?_⟩
          unfold Oper.wp
          go_simp
          refine (HCA.out _ A2 cap2 (below_of HB.out HB.out.size hB) (HFS.out.below hB)).mono ?_
          rintro e w4 ⟨rfl, b4⟩
          exact ⟨_, rfl, b4, rfl, below_of hB hB.size b4⟩
        · simp at hq; subst hq
          have g41 : act.tmps[41]?.getD undef = .string (TP ++ (⟨#[59]⟩)) := hI.has 4 41 rfl (hall ⟨4, .data⟩ (by simp) rfl)
          have g43 : act.tmps[43]?.getD undef = .string TA := hI.has 6 43 rfl (hall ⟨6, .data⟩ (by simp) rfl)
          clear hI hall hnot hcl
          refine .inl ⟨wanted_none rfl, ?_⟩
          unfold Oper.wp
          go_simp
          rw [if_neg (by omega)]
          go_simp
          all_goals first | exact ⟨_, rfl, Below.refl _ _, rfl, hB⟩ | exact ⟨Below.refl _ _, hB⟩ | exact Below.refl _ _
        · simp at hq; subst hq
          have g44 : act.tmps[44]?.getD undef = .string (((TP ++ (⟨#[59]⟩))) ++ TA) := hI.has 7 44 rfl (hall ⟨7, .data⟩ (by simp) rfl)
          clear hI hall hnot hcl
          refine .inl ⟨wanted_none rfl, ?_⟩
          unfold Oper.wp
          go_simp
          rw [if_neg (by omega)]
          go_simp
          all_goals first | exact ⟨_, rfl, Below.refl _ _, rfl, hB⟩ | exact ⟨Below.refl _ _, hB⟩ | exact Below.refl _ _
        · simp at hq; subst hq
          have g0 : act.tmps[0]?.getD undef = .pointer (some ⟨BB, 0, none⟩) := hI.kept 0 (by kernel_rfl)
          clear hI hall hnot hcl
          refine .inl ⟨wanted_none rfl, ?_⟩
          unfold Oper.wp
          go_simp
          all_goals first | exact ⟨_, rfl, Below.refl _ _, rfl, hB⟩ | exact ⟨Below.refl _ _, hB⟩ | exact Below.refl _ _
        · simp at hq; subst hq
          have g46 : act.tmps[46]?.getD undef = .pointer (some ⟨BB, 0, none⟩) := hI.has 9 46 rfl (hall ⟨9, .data⟩ (by simp) rfl)
          clear hI hall hnot hcl
          refine .inl ⟨wanted_none rfl, ?_⟩
          unfold Oper.wp
          go_simp
          all_goals first | exact ⟨_, rfl, Below.refl _ _, rfl, hB⟩ | exact ⟨Below.refl _ _, hB⟩ | exact Below.refl _ _
        · simp at hq; subst hq
          have g47 : act.tmps[47]?.getD undef = .pointer (some ⟨BB, 0, none⟩) := hI.has 10 47 rfl (hall ⟨10, .data⟩ (by simp) rfl)
          clear hI hall hnot hcl
          refine .inl ⟨wanted_none rfl, ?_⟩
          unfold Oper.wp
          go_simp
          all_goals first | exact ⟨_, rfl, Below.refl _ _, rfl, hB⟩ | exact ⟨Below.refl _ _, hB⟩ | exact Below.refl _ _
        · simp at hq; subst hq
          have g48 : act.tmps[48]?.getD undef = .pointer (some ⟨BB, 4, none⟩) := hI.has 11 48 rfl (hall ⟨11, .data⟩ (by simp) rfl)
          clear hI hall hnot hcl
          refine .inl ⟨wanted_none rfl, ?_⟩
          unfold Oper.wp
          go_simp
          all_goals first | exact ⟨_, rfl, Below.refl _ _, rfl, hB⟩ | exact ⟨Below.refl _ _, hB⟩ | exact Below.refl _ _
        · simp at hq; subst hq
          have g49 : act.tmps[49]?.getD undef = .int .i64 c := hI.has 12 49 rfl (hall ⟨12, .data⟩ (by simp) rfl)
          clear hI hall hnot hcl
          refine .inl ⟨wanted_none rfl, ?_⟩
          unfold Oper.wp
          go_simp
          refine (HCB.out _ (below_of HB.out HB.out.size hB)).mono ?_
          rintro e w4 ⟨rfl, b4⟩
          exact ⟨_, rfl, b4, rfl, below_of hB hB.size b4⟩
        · simp at hq; subst hq
          have g45 : act.tmps[45]?.getD undef = .string (((((TP ++ (⟨#[59]⟩))) ++ TA)) ++ (⟨#[59]⟩)) := hI.has 8 45 rfl (hall ⟨8, .data⟩ (by simp) rfl)
          have g50 : act.tmps[50]?.getD undef = .string TB := hI.has 13 50 rfl (hall ⟨13, .data⟩ (by simp) rfl)
          clear hI hall hnot hcl
          refine .inl ⟨wanted_none rfl, ?_⟩
          unfold Oper.wp
          go_simp
          rw [if_neg (by omega)]
          go_simp
          all_goals first | exact ⟨_, rfl, Below.refl _ _, rfl, hB⟩ | exact ⟨Below.refl _ _, hB⟩ | exact Below.refl _ _
        · simp at hq; subst hq
          have g51 : act.tmps[51]?.getD undef = .string (((((((TP ++ (⟨#[59]⟩))) ++ TA)) ++ (⟨#[59]⟩))) ++ TB) := hI.has 14 51 rfl (hall ⟨14, .data⟩ (by simp) rfl)
          clear hI hall hnot hcl
          refine .inl ⟨wanted_none rfl, ?_⟩
          unfold Oper.wp
          go_simp
          rw [if_neg (by omega)]
          go_simp
          all_goals first | exact ⟨_, rfl, Below.refl _ _, rfl, hB⟩ | exact ⟨Below.refl _ _, hB⟩ | exact Below.refl _ _
        · simp at hq; subst hq
          have g0 : act.tmps[0]?.getD undef = .pointer (some ⟨BB, 0, none⟩) := hI.kept 0 (by kernel_rfl)
          clear hI hall hnot hcl
          refine .inl ⟨wanted_none rfl, ?_⟩
          unfold Oper.wp
          go_simp
          all_goals first | exact ⟨_, rfl, Below.refl _ _, rfl, hB⟩ | exact ⟨Below.refl _ _, hB⟩ | exact Below.refl _ _
        · simp at hq; subst hq
          have g53 : act.tmps[53]?.getD undef = .pointer (some ⟨BB, 0, none⟩) := hI.has 16 53 rfl (hall ⟨16, .data⟩ (by simp) rfl)
          clear hI hall hnot hcl
          refine .inl ⟨wanted_none rfl, ?_⟩
          unfold Oper.wp
          go_simp
          all_goals first | exact ⟨_, rfl, Below.refl _ _, rfl, hB⟩ | exact ⟨Below.refl _ _, hB⟩ | exact Below.refl _ _
        · simp at hq; subst hq
          have g54 : act.tmps[54]?.getD undef = .pointer (some ⟨BB, 0, none⟩) := hI.has 17 54 rfl (hall ⟨17, .data⟩ (by simp) rfl)
          clear hI hall hnot hcl
          refine .inl ⟨wanted_none rfl, ?_⟩
          unfold Oper.wp
          go_simp
          all_goals first | exact ⟨_, rfl, Below.refl _ _, rfl, hB⟩ | exact ⟨Below.refl _ _, hB⟩ | exact Below.refl _ _
        · simp at hq; subst hq
          have g55 : act.tmps[55]?.getD undef = .pointer (some ⟨BB, 5, none⟩) := hI.has 18 55 rfl (hall ⟨18, .data⟩ (by simp) rfl)
          clear hI hall hnot hcl
          refine .inl ⟨wanted_none rfl, ?_⟩
          unfold Oper.wp
          go_simp
          all_goals first | exact ⟨_, rfl, Below.refl _ _, rfl, hB⟩ | exact ⟨Below.refl _ _, hB⟩ | exact Below.refl _ _
        · simp at hq; subst hq
          have g0 : act.tmps[0]?.getD undef = .pointer (some ⟨BB, 0, none⟩) := hI.kept 0 (by kernel_rfl)
          clear hI hall hnot hcl
          refine .inl ⟨wanted_none rfl, ?_⟩
          unfold Oper.wp
          go_simp
          all_goals first | exact ⟨_, rfl, Below.refl _ _, rfl, hB⟩ | exact ⟨Below.refl _ _, hB⟩ | exact Below.refl _ _
        · simp at hq; subst hq
          have g57 : act.tmps[57]?.getD undef = .pointer (some ⟨BB, 0, none⟩) := hI.has 20 57 rfl (hall ⟨20, .data⟩ (by simp) rfl)
          clear hI hall hnot hcl
          refine .inl ⟨wanted_none rfl, ?_⟩
          unfold Oper.wp
          go_simp
          all_goals first | exact ⟨_, rfl, Below.refl _ _, rfl, hB⟩ | exact ⟨Below.refl _ _, hB⟩ | exact Below.refl _ _
        · simp at hq; subst hq
          have g58 : act.tmps[58]?.getD undef = .pointer (some ⟨BB, 0, none⟩) := hI.has 21 58 rfl (hall ⟨21, .data⟩ (by simp) rfl)
          clear hI hall hnot hcl
          refine .inl ⟨wanted_none rfl, ?_⟩
          unfold Oper.wp
          go_simp
          all_goals first | exact ⟨_, rfl, Below.refl _ _, rfl, hB⟩ | exact ⟨Below.refl _ _, hB⟩ | exact Below.refl _ _
        · simp at hq; subst hq
          have g59 : act.tmps[59]?.getD undef = .pointer (some ⟨BB, 6, none⟩) := hI.has 22 59 rfl (hall ⟨22, .data⟩ (by simp) rfl)
          clear hI hall hnot hcl
          refine .inl ⟨wanted_none rfl, ?_⟩
          unfold Oper.wp
          go_simp
          all_goals first | exact ⟨_, rfl, Below.refl _ _, rfl, hB⟩ | exact ⟨Below.refl _ _, hB⟩ | exact Below.refl _ _
        · simp at hq; subst hq
          have g56 : act.tmps[56]?.getD undef = .float .f32 hub := hI.has 19 56 rfl (hall ⟨19, .data⟩ (by simp) rfl)
          have g60 : act.tmps[60]?.getD undef = .float .f32 tip := hI.has 23 60 rfl (hall ⟨23, .data⟩ (by simp) rfl)
          clear hI hall hnot hcl
          refine .inl ⟨wanted_none rfl, ?_⟩
          unfold Oper.wp
          go_simp
          first | exact ⟨_, rfl, (Below.refl _ _).alloc (Nat.le_refl _) _, ⟨_, rfl, fl_lit _ [hub, tip] _⟩, hB.alloc hB.size _⟩ | exact ⟨_, rfl, (Below.refl _ _).alloc (Nat.le_refl _) _, ⟨_, rfl, fl_lit _ [hub, tip] _⟩⟩
        · simp at hq; subst hq
          obtain ⟨q24, g61, h24a⟩ := hI.has 24 61 rfl (hall ⟨24, .data⟩ (by simp) rfl)
          clear hI hall hnot hcl
          refine .inl ⟨wanted_none rfl, ?_⟩
          unfold Oper.wp
          go_simp
          refine (HCC.out _ q24 (below_of HB.out HB.out.size hB) h24a).mono ?_
          rintro e w4 ⟨rfl, b4⟩
          exact ⟨_, rfl, b4, rfl, below_of hB hB.size b4⟩
        · simp at hq; subst hq
          have g52 : act.tmps[52]?.getD undef = .string (((((((((TP ++ (⟨#[59]⟩))) ++ TA)) ++ (⟨#[59]⟩))) ++ TB)) ++ (⟨#[59]⟩)) := hI.has 15 52 rfl (hall ⟨15, .data⟩ (by simp) rfl)
          have g62 : act.tmps[62]?.getD undef = .string TC := hI.has 25 62 rfl (hall ⟨25, .data⟩ (by simp) rfl)
          clear hI hall hnot hcl
          refine .inl ⟨wanted_none rfl, ?_⟩
          unfold Oper.wp
          go_simp
          rw [if_neg (by omega)]
          go_simp
          all_goals first | exact ⟨_, rfl, Below.refl _ _, rfl, hB⟩ | exact ⟨Below.refl _ _, hB⟩ | exact Below.refl _ _
        · simp at hq; subst hq
          have g63 : act.tmps[63]?.getD undef = .string (((((((((((TP ++ (⟨#[59]⟩))) ++ TA)) ++ (⟨#[59]⟩))) ++ TB)) ++ (⟨#[59]⟩))) ++ TC) := hI.has 26 63 rfl (hall ⟨26, .data⟩ (by simp) rfl)
          clear hI hall hnot hcl
          refine .inl ⟨wanted_none rfl, ?_⟩
          unfold Oper.wp
          go_simp
          all_goals first | exact ⟨_, rfl, Below.refl _ _, rfl, hB⟩ | exact ⟨Below.refl _ _, hB⟩ | exact Below.refl _ _
        · simp at hq
      case hend =>
        intro listed act w3 hI hall
        have hB := hI.cls
        obtain ⟨k0, k1, k2, k3, k4, k5, k6⟩ := blkL7 ((HK.out.below HB.out).below hB)
        have g2 : act.tmps[2]?.getD undef = .string (((((((((((TP ++ (⟨#[59]⟩))) ++ TA)) ++ (⟨#[59]⟩))) ++ TB)) ++ (⟨#[59]⟩))) ++ TC) := hI.has 27 2 rfl (hall 27 (by decide))
        have g0 := hI.kept 0 (by kernel_rfl)
        conv at g0 => rhs; whnf
        have g1 : act.tmps[1]?.getD undef = undef := hI.kept 1 (by kernel_rfl)
        have g3 := hI.kept 3 (by kernel_rfl)
        conv at g3 => rhs; whnf
        have g4 := hI.kept 4 (by kernel_rfl)
        conv at g4 => rhs; whnf
        have g5 := hI.kept 5 (by kernel_rfl)
        conv at g5 => rhs; whnf
        have g6 := hI.kept 6 (by kernel_rfl)
        conv at g6 => rhs; whnf
        have g7 := hI.kept 7 (by kernel_rfl)
        conv at g7 => rhs; whnf
        have g8 := hI.kept 8 (by kernel_rfl)
        conv at g8 => rhs; whnf
        have g9 := hI.kept 9 (by kernel_rfl)
        conv at g9 => rhs; whnf
        have g10 := hI.kept 10 (by kernel_rfl)
        conv at g10 => rhs; whnf
        have g11 := hI.kept 11 (by kernel_rfl)
        conv at g11 => rhs; whnf
        have g12 := hI.kept 12 (by kernel_rfl)
        conv at g12 => rhs; whnf
        have g13 := hI.kept 13 (by kernel_rfl)
        conv at g13 => rhs; whnf
        have g14 := hI.kept 14 (by kernel_rfl)
        conv at g14 => rhs; whnf
        have g15 := hI.kept 15 (by kernel_rfl)
        conv at g15 => rhs; whnf
        have g16 := hI.kept 16 (by kernel_rfl)
        conv at g16 => rhs; whnf
        have g17 := hI.kept 17 (by kernel_rfl)
        conv at g17 => rhs; whnf
        have g18 := hI.kept 18 (by kernel_rfl)
        conv at g18 => rhs; whnf
        have g19 := hI.kept 19 (by kernel_rfl)
        conv at g19 => rhs; whnf
        have g20 := hI.kept 20 (by kernel_rfl)
        conv at g20 => rhs; whnf
        have g21 := hI.kept 21 (by kernel_rfl)
        conv at g21 => rhs; whnf
        have g22 := hI.kept 22 (by kernel_rfl)
        conv at g22 => rhs; whnf
        have g23 := hI.kept 23 (by kernel_rfl)
        conv at g23 => rhs; whnf
        have g24 := hI.kept 24 (by kernel_rfl)
        conv at g24 => rhs; whnf
        have g25 := hI.kept 25 (by kernel_rfl)
        conv at g25 => rhs; whnf
        have g26 := hI.kept 26 (by kernel_rfl)
        conv at g26 => rhs; whnf
        have g27 := hI.kept 27 (by kernel_rfl)
        conv at g27 => rhs; whnf
        have g28 := hI.kept 28 (by kernel_rfl)
        conv at g28 => rhs; whnf
        have g29 := hI.kept 29 (by kernel_rfl)
        conv at g29 => rhs; whnf
        have g30 := hI.kept 30 (by kernel_rfl)
        conv at g30 => rhs; whnf
        have g31 := hI.kept 31 (by kernel_rfl)
        conv at g31 => rhs; whnf
        have g32 := hI.kept 32 (by kernel_rfl)
        conv at g32 => rhs; whnf
        have g33 := hI.kept 33 (by kernel_rfl)
        conv at g33 => rhs; whnf
        have g34 := hI.kept 34 (by kernel_rfl)
        conv at g34 => rhs; whnf
        have g35 := hI.kept 35 (by kernel_rfl)
        conv at g35 => rhs; whnf
        have g36 := hI.kept 36 (by kernel_rfl)
        conv at g36 => rhs; whnf
        have hsz : act.tmps.size = 64 := hI.size.trans (by kernel_rfl)
        have hd := hI.defers
        clear hI hall
        obtain ⟨tt, dd⟩ := act
        simp only at g0 g1 g2 g3 g4 g5 g6 g7 g8 g9 g10 g11 g12 g13 g14 g15 g16 g17 g18 g19 g20 g21 g22 g23 g24 g25 g26 g27 g28 g29 g30 g31 g32 g33 g34 g35 g36 hsz hd
        subst hd
        have hl : tt = #[tt[0]?.getD undef, tt[1]?.getD undef, tt[2]?.getD undef, tt[3]?.getD undef, tt[4]?.getD undef, tt[5]?.getD undef, tt[6]?.getD undef, tt[7]?.getD undef, tt[8]?.getD undef, tt[9]?.getD undef, tt[10]?.getD undef, tt[11]?.getD undef, tt[12]?.getD undef, tt[13]?.getD undef, tt[14]?.getD undef, tt[15]?.getD undef, tt[16]?.getD undef, tt[17]?.getD undef, tt[18]?.getD undef, tt[19]?.getD undef, tt[20]?.getD undef, tt[21]?.getD undef, tt[22]?.getD undef, tt[23]?.getD undef, tt[24]?.getD undef, tt[25]?.getD undef, tt[26]?.getD undef, tt[27]?.getD undef, tt[28]?.getD undef, tt[29]?.getD undef, tt[30]?.getD undef, tt[31]?.getD undef, tt[32]?.getD undef, tt[33]?.getD undef, tt[34]?.getD undef, tt[35]?.getD undef, tt[36]?.getD undef, tt[37]?.getD undef, tt[38]?.getD undef, tt[39]?.getD undef, tt[40]?.getD undef, tt[41]?.getD undef, tt[42]?.getD undef, tt[43]?.getD undef, tt[44]?.getD undef, tt[45]?.getD undef, tt[46]?.getD undef, tt[47]?.getD undef, tt[48]?.getD undef, tt[49]?.getD undef, tt[50]?.getD undef, tt[51]?.getD undef, tt[52]?.getD undef, tt[53]?.getD undef, tt[54]?.getD undef, tt[55]?.getD undef, tt[56]?.getD undef, tt[57]?.getD undef, tt[58]?.getD undef, tt[59]?.getD undef, tt[60]?.getD undef, tt[61]?.getD undef, tt[62]?.getD undef, tt[63]?.getD undef] := (arr_lit hsz).trans rfl
        rw [g0, g1, g2, g3, g4, g5, g6, g7, g8, g9, g10, g11, g12, g13, g14, g15, g16, g17, g18, g19, g20, g21, g22, g23, g24, g25, g26, g27, g28, g29, g30, g31, g32, g33, g34, g35, g36] at hl
        clear g0 g1 g2 g3 g4 g5 g6 g7 g8 g9 g10 g11 g12 g13 g14 g15 g16 g17 g18 g19 g20 g21 g22 g23 g24 g25 g26 g27 g28 g29 g30 g31 g32 g33 g34 g35 g36 hsz
        generalize tt[37]?.getD undef = y37 at hl
        generalize tt[38]?.getD undef = y38 at hl
        generalize tt[39]?.getD undef = y39 at hl
        generalize tt[40]?.getD undef = y40 at hl
        generalize tt[41]?.getD undef = y41 at hl
        generalize tt[42]?.getD undef = y42 at hl
        generalize tt[43]?.getD undef = y43 at hl
        generalize tt[44]?.getD undef = y44 at hl
        generalize tt[45]?.getD undef = y45 at hl
        generalize tt[46]?.getD undef = y46 at hl
        generalize tt[47]?.getD undef = y47 at hl
        generalize tt[48]?.getD undef = y48 at hl
        generalize tt[49]?.getD undef = y49 at hl
        generalize tt[50]?.getD undef = y50 at hl
        generalize tt[51]?.getD undef = y51 at hl
        generalize tt[52]?.getD undef = y52 at hl
        generalize tt[53]?.getD undef = y53 at hl
        generalize tt[54]?.getD undef = y54 at hl
        generalize tt[55]?.getD undef = y55 at hl
        generalize tt[56]?.getD undef = y56 at hl
        generalize tt[57]?.getD undef = y57 at hl
        generalize tt[58]?.getD undef = y58 at hl
        generalize tt[59]?.getD undef = y59 at hl
        generalize tt[60]?.getD undef = y60 at hl
        generalize tt[61]?.getD undef = y61 at hl
        generalize tt[62]?.getD undef = y62 at hl
        generalize tt[63]?.getD undef = y63 at hl
        subst hl
        go_wp2
        go_ret
        exact ⟨by rw [HS.out]; rfl, below_of HB.out HB.out.size hB⟩
set_option maxHeartbeats 2000000 in
theorem i_RotorText (A L D S : Option Addr) (ca cl cd n cs : Nat) (c : Int) (hub tip : Nat) (a l d s : List Nat) (w : World) (h : Rt w A L D S a l d s) (hn : FewR a l d s n) (hw : (∀ x ∈ a, canon .f32 x < 4294967296) ∧ (∀ x ∈ l, canon .f32 x < 4294967296) ∧ ∀ x ∈ d, canon .f32 x < 4294967296) (hws : (∀ x ∈ s, canon .f32 x < 4294967296) ∧ ∀ x ∈ [hub, tip], canon .f32 x < 4294967296) (hi : -9223372036854775808 ≤ c ∧ c ≤ 9223372036854775807) (hT : T64 w ∧ T10 w) :
    Calls Tryd.prog 19 #[.agg #[.slice A a.length ca, .slice L l.length cl, .slice D d.length cd, .slice S n cs, .int .i64 c, .float .f32 hub, .float .f32 tip]] w fun e w' => e = .returned (.tuple #[.string (rotT a l d s n c hub tip), .bool (validR a l d s n c hub tip)]) ∧ Below w.heap.size w w' := by
  have HP := Lib.hid h
  have HW := Lib.hid hw
  have HWS := Lib.hid hws
  have HI := Lib.hid hi
  have HT := Lib.hid hT
  clear h hw hws hi hT
  have HV : Calls Tryd.prog 55 #[.agg #[.slice A a.length ca, .slice L l.length cl, .slice D d.length cd, .slice S n cs, .int .i64 c, .float .f32 hub, .float .f32 tip], .func (.func 56) #[] #[], .func (.func 57) #[] #[]] (w.alloc (.cells #[.slice A a.length ca, .slice L l.length cl, .slice D d.length cd, .slice S n cs, .int .i64 c, .float .f32 hub, .float .f32 tip] 40)) fun e w' => e = .returned (.tuple #[.string (rotT a l d s n c hub tip), .bool (validR a l d s n c hub tip)]) ∧ Below w.heap.size w w' := by
    have HB1 : Hid (Below w.heap.size w (w.alloc (.cells #[.slice A a.length ca, .slice L l.length cl, .slice D d.length cd, .slice S n cs, .int .i64 c, .float .f32 hub, .float .f32 tip] 40))) := Lib.hid ((Below.refl _ _).alloc (Nat.le_refl _) _)
    generalize w.alloc (.cells #[.slice A a.length ca, .slice L l.length cl, .slice D d.length cd, .slice S n cs, .int .i64 c, .float .f32 hub, .float .f32 tip] 40) = w1 at HB1 ⊢
    have HB2 : Hid (Below w.heap.size w (w1.alloc (.cells #[.slice A a.length ca, .slice L l.length cl, .slice D d.length cd, .slice S n cs, .int .i64 c, .float .f32 hub, .float .f32 tip] 40))) := Lib.hid (HB1.out.alloc HB1.out.size _)
    have HK : Hid (BlkL (w1.alloc (.cells #[.slice A a.length ca, .slice L l.length cl, .slice D d.length cd, .slice S n cs, .int .i64 c, .float .f32 hub, .float .f32 tip] 40)) w1.heap.size [.slice A a.length ca, .slice L l.length cl, .slice D d.length cd, .slice S n cs, .int .i64 c, .float .f32 hub, .float .f32 tip]) := Lib.hid (blkL_at w1 #[.slice A a.length ca, .slice L l.length cl, .slice D d.length cd, .slice S n cs, .int .i64 c, .float .f32 hub, .float .f32 tip] _ rfl)
    go_enter Tryd.func55, Tryd.ntmps55
    go_wp2_with fail
    generalize w1.alloc (.cells #[.slice A a.length ca, .slice L l.length cl, .slice D d.length cd, .slice S n cs, .int .i64 c, .float .f32 hub, .float .f32 tip] 40) = w2 at HB2 HK ⊢
    refine (i_ValidRotor A L D S ca cl cd n cs c hub tip a l d s _ (HP.out.below HB2.out) hn).mono ?_
    rintro e w3 ⟨rfl, hb⟩
    have HB3 : Hid (Below w.heap.size w w3) := Lib.hid (below_of HB2.out HB2.out.size hb)
    have HK3 := Lib.hid (HK.out.below hb)
    clear hb
    cases hv : validR a l d s n c hub tip
    · have HR : Hid (rotT a l d s n c hub tip = ⟨#[]⟩) := Lib.hid (by unfold rotT; rw [hv]; rfl)
      have HQ := Lib.hid hv
      go_wp2
      go_ret2
      exact ⟨by rw [HR.out, HQ.out]; rfl, HB3.out⟩
    · have HR : Hid (rotT a l d s n c hub tip = rotS a l d s c hub tip) := Lib.hid (by unfold rotT; rw [hv]; rfl)
      have HQ := Lib.hid hv
      obtain ⟨k0, k1, k2, k3, k4, k5, k6⟩ := blkL7 HK3.out
      go_wp2_with fail
      refine (i_rotorText A L D S ca cl cd n cs c hub tip a l d s _ (HP.out.below HB3.out) hn.1 (validR_sized HQ.out).1 (validR_sized HQ.out).2 HW.out HWS.out HI.out ⟨HT.out.1.below HB3.out, HT.out.2.below HB3.out⟩).mono ?_
      rintro e w4 ⟨rfl, hb⟩
      have HB4 : Hid (Below w.heap.size w w4) := Lib.hid (below_of HB3.out HB3.out.size hb)
      clear hb
      go_wp2
      go_ret2
      exact ⟨by rw [HR.out, HQ.out]; rfl, HB4.out⟩
  go_enter Tryd.func19, Tryd.ntmps19
  go_wp2_with fail
  refine HV.mono ?_
  rintro e w1 ⟨rfl, hb⟩
  have HB := Lib.hid hb
  clear hb
  go_wp2
  go_ret2
  exact ⟨rfl, HB.out⟩
set_option maxHeartbeats 2000000 in
theorem s_RotorText (A L D S : Option Addr) (ca cl cd n cs : Nat) (c : Int) (hub tip : Nat) (a l d s : List Nat) (w : World) (h : Rt w A L D S a l d s) (hn : FewR a l d s n) (hw : (∀ x ∈ a, canon .f32 x < 4294967296) ∧ (∀ x ∈ l, canon .f32 x < 4294967296) ∧ ∀ x ∈ d, canon .f32 x < 4294967296) (hws : (∀ x ∈ s, canon .f32 x < 4294967296) ∧ ∀ x ∈ [hub, tip], canon .f32 x < 4294967296) (hi : -9223372036854775808 ≤ c ∧ c ≤ 9223372036854775807) :
    Calls Tryd.prog 17 #[.agg #[.slice A a.length ca, .slice L l.length cl, .slice D d.length cd, .slice S n cs, .int .i64 c, .float .f32 hub, .float .f32 tip]] w fun e w' => e = .returned (.tuple #[.string (rotT a l d s n c hub tip), .bool (validR a l d s n c hub tip)]) ∧ Below w.heap.size w w' := by
  have HP := Lib.hid h
  have HW := Lib.hid hw
  have HWS := Lib.hid hws
  have HI := Lib.hid hi
  clear h hw hws hi
  have HB1 : Hid (Below w.heap.size w (w.alloc (.cells #[.slice A a.length ca, .slice L l.length cl, .slice D d.length cd, .slice S n cs, .int .i64 c, .float .f32 hub, .float .f32 tip] 40))) := Lib.hid ((Below.refl _ _).alloc (Nat.le_refl _) _)
  have HK : Hid (BlkL (w.alloc (.cells #[.slice A a.length ca, .slice L l.length cl, .slice D d.length cd, .slice S n cs, .int .i64 c, .float .f32 hub, .float .f32 tip] 40)) w.heap.size [.slice A a.length ca, .slice L l.length cl, .slice D d.length cd, .slice S n cs, .int .i64 c, .float .f32 hub, .float .f32 tip]) := Lib.hid (blkL_at w #[.slice A a.length ca, .slice L l.length cl, .slice D d.length cd, .slice S n cs, .int .i64 c, .float .f32 hub, .float .f32 tip] _ rfl)
  go_enter Tryd.func17, Tryd.ntmps17
  go_wp2_with fail
  generalize w.alloc (.cells #[.slice A a.length ca, .slice L l.length cl, .slice D d.length cd, .slice S n cs, .int .i64 c, .float .f32 hub, .float .f32 tip] 40) = w1 at HB1 HK ⊢
  refine (s_l03Is A L D S ca cl cd n cs c hub tip a l d s _ _ (HP.out.below HB1.out) hn HK.out).mono ?_
  rintro e w2 ⟨rfl, hb⟩
  have HB2 : Hid (Below w.heap.size w w2) := Lib.hid (by exact below_of HB1.out HB1.out.size hb)
  have HK2 : Hid (BlkL w2 w.heap.size [.slice A a.length ca, .slice L l.length cl, .slice D d.length cd, .slice S n cs, .int .i64 c, .float .f32 hub, .float .f32 tip]) := Lib.hid (by exact HK.out.below hb)
  clear hb
  cases hv : validR a l d s n c hub tip
  · have HR : Hid (rotT a l d s n c hub tip = ⟨#[]⟩) := Lib.hid (by unfold rotT; rw [hv]; rfl)
    have HQ := Lib.hid hv
    go_wp2
    go_ret2
    exact ⟨by rw [HR.out, HQ.out]; rfl, HB2.out⟩
  · have HR : Hid (rotT a l d s n c hub tip = rotS a l d s c hub tip) := Lib.hid (by unfold rotT; rw [hv]; rfl)
    have HQ := Lib.hid hv
    go_wp2_with fail
    refine (s_l08Rotor A L D S ca cl cd n cs c hub tip a l d s _ _ HK2.out (HP.out.below HB2.out) hn.1 (validR_sized HQ.out).1 (validR_sized HQ.out).2 HW.out HWS.out HI.out).mono ?_
    rintro e w3 ⟨rfl, hb⟩
    have HB3 : Hid (Below w.heap.size w w3) := Lib.hid (below_of HB2.out HB2.out.size hb)
    clear hb
    go_wp2
    go_ret2
    exact ⟨by rw [HR.out, HQ.out]; rfl, HB3.out⟩
end Go.Proofs.YtpjgmfkjpkeohaaDoor
