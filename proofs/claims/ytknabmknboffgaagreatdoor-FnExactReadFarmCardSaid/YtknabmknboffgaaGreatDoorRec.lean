/- attempt and must: what is given up is caught. No statement is proved here. -/
import Derived.Test.YtknabmknboffgaaGreatDoorNumS
import Derived.Defers
import Derived.Recover
import Derived.WalkLawsBesides
import Derived.Stop.Asserts
namespace Go.Proofs.YtknabmknboffgaaGreatDoor
open Go Go.RowKit
/-- what a reader gives up with -/
def EMv (pv : Value) (w : World) : Prop := w.cell? ⟨0, 0, none⟩ = some (.iface 179 pv)
theorem EMv.below {pv : Value} {w w' : World} (h : EMv pv w) (hb : Below w.heap.size w w') : EMv pv w' := by
  unfold EMv at *
  rw [hb.cell (p := ⟨0, 0, none⟩) (cell_lt h).1]; exact h
/-- the chain of what was given up -/
def chn (pv : Value) : List PanicEntry := [{ v := .iface 179 pv, recovered := false }]
theorem as_err (pv : Value) (w : World) : (Instr.typeAssert (.iface 179 pv) 20 79 true).run Tryz.prog w = .ok (.tuple #[.iface 179 pv, .bool true]) w := run_typeAssert_hasB Tryz.underlying79 (by kernel_rfl) pv _ w
theorem as_nil (w : World) : (Instr.typeAssert .nilIface 20 79 true).run Tryz.prog w = .ok (.tuple #[.nilIface, .bool false]) w := by kernel_rfl
theorem att_idle (p : Addr) (w : World) :
    CallsD Tryz.prog 88 #[.pointer (some p)] .returning w fun e u' w' => e = .returned (.tuple #[]) ∧ u' = .returning ∧ w' = w := by
  refine callsD_of_wpS Tryz.func88 rfl fun c₀ cs hu => ?_
  apply wpS_seq
  apply wpS_region
  simp [wpOpsS, go_sem, recoverD, hu, Tryz.ntmps88, Exit.thenS, as_nil]
  apply wpS_seq
  apply wpS_region
  simp [wpOpsS, go_sem, Exit.thenS]
  refine wpS_cond (t := false) (by simp [Act.eval, Array.replicate]) ?_
  simp only [Bool.false_eq_true, if_false]
  refine wpS_of_wp (wp_skip ?_)
  cases c₀
  simp_all [bodyPostS, results, Tryz.results88]
theorem att_panic (p : Addr) (pv : Value) (older : List PanicEntry) (w : World) (hc : w.cell? p = some .nilIface) (hz : w.frozen? p = false) :
    CallsD Tryz.prog 88 #[.pointer (some p)] (.panicking ({ v := .iface 179 pv, recovered := false } :: older)) w fun e u' w' =>
      e = .returned (.tuple #[]) ∧ u' = .panicking ({ v := .iface 179 pv, recovered := true } :: older) ∧ w' = w.setCell p (.iface 179 pv) := by
  refine callsD_of_wpS Tryz.func88 rfl fun c₀ cs hu => ?_
  apply wpS_seq
  apply wpS_region
  simp [wpOpsS, go_sem, recoverD, hu, Tryz.ntmps88, Exit.thenS, as_err]
  apply wpS_seq
  apply wpS_region
  simp [wpOpsS, go_sem, Exit.thenS]
  refine wpS_cond (t := true) (by simp [Act.eval, Array.replicate]) ?_
  simp only [if_true]
  apply wpS_region
  simp [wpOpsS, go_sem, hc, hz, bodyPostS, results, Tryz.results88, Array.replicate]
theorem i_must_yes (A : Option Addr) (n cap : Nat) (w : World) :
    Calls Tryz.prog 69 #[.slice A n cap, .bool true] w fun e w' => e = .returned (.slice A n cap) ∧ w' = w := by
  go_enter Tryz.func69, Tryz.ntmps69
  go_wp2
  go_ret
  exact ⟨rfl, rfl⟩
theorem i_must_no (A : Option Addr) (n cap : Nat) (pv : Value) (w : World) (h : EMv pv w) :
    Calls Tryz.prog 69 #[.slice A n cap, .bool false] w fun e w' => e = .panicked (chn pv) ∧ w' = w := by
  unfold EMv at h
  go_enter Tryz.func69, Tryz.ntmps69
  go_wp2
  exact ⟨rfl, rfl, rfl⟩
theorem i_numbersIn_yes (s : ByteArray) (n : Nat) (w : World) (hs : s.size ≤ 1048576) (hE : EV w) (hT : T64 w) (hM : ML w) (ho : nmO s = true) (hl : (nmL s).length = n) :
    Calls Tryz.prog 61 #[.string s, .int .i64 n] w fun e w' => ∃ R1 c1 g1, e = .returned (.slice R1 n c1) ∧ OwnO w' w.heap.size R1 g1 (nmL s) ∧ Below w.heap.size w w' := by
  have HC := Lib.hid (i_ReadNumbers s w hs hE hT hM)
  rw [ho, hl] at HC
  clear hs hE hT hM ho hl
  go_enter Tryz.func61, Tryz.ntmps61
  go_wp2_with fail
  refine HC.out.mono ?_
  rintro e w1 ⟨R1, c1, g1, rfl, ho, b1⟩
  have HO := Lib.hid ho
  have HB := Lib.hid b1
  clear ho b1 HC
  have heq : ((n : Int) == (n : Int)) = true := by simp
  go_wp2_with fail
  refine (i_must_yes R1 n c1 _).mono ?_
  rintro e w2 ⟨rfl, hw⟩
  obtain rfl : w1 = w2 := hw.symm
  go_wp2
  go_ret
  exact ⟨R1, c1, g1, rfl, HO.out, HB.out⟩
theorem i_numbersIn_no (s : ByteArray) (n : Nat) (pv : Value) (w : World) (hs : s.size ≤ 1048576) (hE : EV w) (hT : T64 w) (hM : ML w) (hV : EMv pv w) (ho : ¬ (nmO s = true ∧ (nmL s).length = n)) :
    Calls Tryz.prog 61 #[.string s, .int .i64 n] w fun e w' => e = .panicked (chn pv) ∧ Below w.heap.size w w' := by
  have HC := Lib.hid (i_ReadNumbers s w hs hE hT hM)
  have HV := Lib.hid hV
  clear hs hE hT hM hV
  cases hb : nmO s
  · rw [hb] at HC
    clear ho hb
    go_enter Tryz.func61, Tryz.ntmps61
    go_wp2_with fail
    refine HC.out.mono ?_
    rintro e w1 ⟨R1, c1, g1, rfl, -, b1⟩
    have HB := Lib.hid b1
    have HV1 := Lib.hid (HV.out.below b1)
    clear b1 HC
    go_wp2_with fail
    refine (i_must_no R1 _ c1 pv _ HV1.out).mono ?_
    rintro e w2 ⟨rfl, hw⟩
    obtain rfl : w1 = w2 := hw.symm
    go_wp2
    exact ⟨rfl, rfl, HB.out⟩
  · have hne : ¬ (nmL s).length = n := fun e => ho ⟨hb, e⟩
    rw [hb] at HC
    clear ho hb
    generalize (nmL s) = l at HC hne
    have heq : ((l.length : Int) == (n : Int)) = false := beq_eq_false_iff_ne.2 (by omega)
    go_enter Tryz.func61, Tryz.ntmps61
    go_wp2_with fail
    refine HC.out.mono ?_
    rintro e w1 ⟨R1, c1, g1, rfl, -, b1⟩
    have HB := Lib.hid b1
    have HV1 := Lib.hid (HV.out.below b1)
    clear b1 HC
    go_wp2_with fail
    refine (i_must_no R1 _ c1 pv _ HV1.out).mono ?_
    rintro e w2 ⟨rfl, hw⟩
    obtain rfl : w1 = w2 := hw.symm
    go_wp2
    exact ⟨rfl, rfl, HB.out⟩
end Go.Proofs.YtknabmknboffgaaGreatDoor
