import Derived.Test.YtmpfpolanndakabProg
import Derived.Test.YtmpfpolanndakabK
import Derived.Test.YtmpfpolanndakabG
import Derived.Test.YtmpfpolanndakabL
import Derived.Test.YtmpfpolanndakabW
import Derived.Test.YtmpfpolanndakabFe
import Derived.Test.YtmpfpolanndakabFf
import Derived.Test.YtmpfpolanndakabHa
import Derived.Test.YtmpfpolanndakabHb
import Derived.Test.YtmpfpolanndakabHc
import Derived.Test.YtmpfpolanndakabHd
import Derived.Test.YtmpfpolanndakabHe
import Derived.Test.YtmpfpolanndakabHf
import Derived.Test.YtmpfpolanndakabHg
import Derived.Test.YtmpfpolanndakabHh
import Derived.Test.YtmpfpolanndakabHi
import Derived.Test.YtmpfpolanndakabHj
import Derived.Below
import Derived.BigQuiet
import Derived.BigRegion
import Derived.ChangeAlike
import Derived.ChangeKeysEq
import Derived.ChangeSame
import Derived.DataElems
import Derived.Deep.MidRow
import Derived.Deep.QuietTactic
import Derived.Deep.RegionHeld
import Derived.Deep.RegionHeld3
import Derived.Deep.RegionLaw
import Derived.Deep.RegionLawGrows
import Derived.Deep.RegionWith
import Derived.Deep.WholeRow
import Derived.Great.BuildSlice
import Derived.Handy
import Derived.Laws.AppendOwn
import Derived.Laws.AppendOwnNone
import Derived.Laws.BitsAllLaws
import Derived.Laws.BitsLemmas
import Derived.Laws.CopyOwn
import Derived.Laws.OwnMore
import Derived.Laws.Rows
import Derived.Laws.StructEq
import Derived.Lib.SmallJoins
import Derived.OpenShut
import Derived.ProofKit
import Derived.RegionTactic
import Derived.WalkKit
import Derived.WalkLawsBesides
import Derived.WalkSmall
import Derived.WalkSpells
import Derived.WideShapes
namespace Go.Proofs.Ytmpfpolanndakab
open Go Go.RowKit
set_option linter.unusedVariables false
set_option linter.unusedSimpArgs false

theorem wpList_loadHw {ops : Array Oper} {rest : List Oper} {o : Oper} {a : Act} {w : World} {Q : Exit → Act → World → Prop} (hw : Region.wanted o (yielded ops a.tmps) = true) (x : Operand) (ho : o.op = .load 26 x)
    (g : Nat) (hx : a.eval x = .pointer (some ⟨g, 0, none⟩)) (l : List (Nat × Nat)) (hl : l.length = 24) (h0 : HB w g l)
    (h : wpList Try.prog ops Q rest (a.put o.dst (.agg (wdc l).toArray)) w) : wpList Try.prog ops Q (o :: rest) a w :=
  wpList_wanted hw fun K hK => wp_load_row 26 x ho g hx 26 (wdc l).toArray (0, 0) _ h0 Try.underlying26 rfl (szH hl) (hK _ _ h)

theorem fld39_1 (a b : Value) (w : World) : (Instr.field 24 (.agg #[a, b]) 1).run Try.prog w = .ok b w := by kernel_rfl

theorem idx42 (l : List (Nat × Nat)) (hl : l.length = 24) (j : Nat) (p : Nat × Nat) (h : l[j]? = some p) (w : World) : (Instr.index 26 (.agg (wdc l).toArray) (.int .i64 (j : Int))).run Try.prog w = .ok (.agg #[.int .u64 (p.1 : Int), .int .u64 (p.2 : Int)]) w := by
  have hj : j < 24 := by have := (List.getElem?_eq_some_iff.1 h).1; omega
  obtain ⟨i, hi, hs⟩ := info39'
  have hp := part39 (wdc l).toArray (j * 2) w
  rw [ext39 l j p h] at hp
  simp [Instr.index, run_underlying Try.underlying26 w, asIntOf, asAgg, sizeOf, typeInfo, hi, hs, hp, hj]

def h5 : List (Nat × Nat) := z24.set 5 (0, 8197)

theorem h5_isH : isH h5 := z24_isH.set 5 (by decide) (by decide)

theorem h5_facts : hget h5 5 = (0, 8197) ∧ decide (clip h5 = h5) = false ∧ (clip h5)[5]? = some (0, 5) ∧ (putK h5 24).length = 95 ∧ diffK h5 z24 24 = [5] ∧ hset z24 5 (0, 8197) = h5 := by
  refine ⟨by decide +kernel, by decide +kernel, by decide +kernel, by decide +kernel, by decide +kernel, by decide +kernel⟩

theorem clip_len (l : List (Nat × Nat)) : (clip l).length = l.length := by simp [clip]

set_option maxRecDepth 100000 in
set_option maxHeartbeats 4000000 in
theorem awake4_any (w : World) :
    Calls Try.prog 8 #[] w fun e w' => e = .returned (.bool true) ∧ Below w.heap.size w w' := by
  obtain ⟨f1, f2, f3, f4, f5, f6⟩ := h5_facts
  have q1 := fun w => hset_any z24 z24_isH 5 0 8197 w
  rw [f6] at q1
  have q1 : Hid (∀ w, Calls Try.prog 7 #[.agg #[.int .u64 0, .int .u64 0, .int .u64 0, .int .u64 0, .int .u64 0, .int .u64 0, .int .u64 0, .int .u64 0, .int .u64 0, .int .u64 0, .int .u64 0, .int .u64 0, .int .u64 0, .int .u64 0, .int .u64 0, .int .u64 0, .int .u64 0, .int .u64 0, .int .u64 0, .int .u64 0, .int .u64 0, .int .u64 0, .int .u64 0, .int .u64 0, .int .u64 0, .int .u64 0, .int .u64 0, .int .u64 0, .int .u64 0, .int .u64 0, .int .u64 0, .int .u64 0, .int .u64 0, .int .u64 0, .int .u64 0, .int .u64 0, .int .u64 0, .int .u64 0, .int .u64 0, .int .u64 0, .int .u64 0, .int .u64 0, .int .u64 0, .int .u64 0, .int .u64 0, .int .u64 0, .int .u64 0, .int .u64 0], .int .i64 5, .agg #[.int .u64 0, .int .u64 8197]] w fun e w' => e = .returned (.agg (wdc h5).toArray) ∧ Below w.heap.size w w') := hide_ q1
  have q2 := fun w => hget_any h5 h5_isH 5 w
  rw [f1] at q2
  have q2 : Hid (∀ w, Calls Try.prog 6 #[.agg (wdc h5).toArray, .int .i64 5] w fun e w' => e = .returned (.agg #[.int .u64 0, .int .u64 8197]) ∧ Below w.heap.size w w') := hide_ q2
  have q3 := fun w => fits_any h5 h5_isH w
  rw [f2] at q3
  have q3 : Hid (∀ w, Calls Try.prog 9 #[.agg (wdc h5).toArray] w fun e w' => e = .returned (.bool false) ∧ Below w.heap.size w w') := hide_ q3
  have q4 : Hid (∀ w, Calls Try.prog 10 #[.agg (wdc h5).toArray] w fun e w' => e = .returned (.agg (wdc (clip h5)).toArray) ∧ Below w.heap.size w w') := hide_ (fun w => clip_any h5 h5_isH w)
  have q5 : Hid (∀ w, Calls Try.prog 11 #[.agg (wdc h5).toArray] w fun e w' => ∃ u, e = .returned u ∧ Bytes w' u (putK h5 24) ∧ Below w.heap.size w w') := hide_ (fun w => hput_any h5 h5_isH w)
  have q6 := fun w => diff_any h5 z24 h5_isH z24_isH w
  rw [f5] at q6
  have q6 : Hid (∀ w, Calls Try.prog 4 #[.agg (wdc h5).toArray, .agg #[.int .u64 0, .int .u64 0, .int .u64 0, .int .u64 0, .int .u64 0, .int .u64 0, .int .u64 0, .int .u64 0, .int .u64 0, .int .u64 0, .int .u64 0, .int .u64 0, .int .u64 0, .int .u64 0, .int .u64 0, .int .u64 0, .int .u64 0, .int .u64 0, .int .u64 0, .int .u64 0, .int .u64 0, .int .u64 0, .int .u64 0, .int .u64 0, .int .u64 0, .int .u64 0, .int .u64 0, .int .u64 0, .int .u64 0, .int .u64 0, .int .u64 0, .int .u64 0, .int .u64 0, .int .u64 0, .int .u64 0, .int .u64 0, .int .u64 0, .int .u64 0, .int .u64 0, .int .u64 0, .int .u64 0, .int .u64 0, .int .u64 0, .int .u64 0, .int .u64 0, .int .u64 0, .int .u64 0, .int .u64 0]] w fun e w' => ∃ u, e = .returned u ∧ w'.ownsRow (w.heap.size + 2) 3 1 u 1 (i64s [5]) ∧ Below w.heap.size w w') := hide_ q6
  have r1 := fun w => idx42 (clip h5) (by rw [clip_len]; exact h5_isH.1) 5 (0, 5) f3 w
  have r1 : ∀ w, (Instr.index 26 (.agg (wdc (clip h5)).toArray) (.int .i64 5)).run Try.prog w = .ok (.agg #[.int .u64 0, .int .u64 5]) w := r1
  have r2 := fun w => fld39_1 (.int .u64 0) (.int .u64 5) w
  have r3 := fun w => fld39_1 (.int .u64 0) (.int .u64 8197) w
  have hlen := h5_isH.1
  have F4 := hide_ f4
  clear f1 f2 f3 f4 f5 f6
  generalize hC : clip h5 = c at *
  clear hC
  generalize hP : putK h5 24 = P at *
  clear hP
  generalize h5 = h at *
  have HLEN := hide_ hlen
  clear hlen
  go_enter Try.func8, Try.ntmps8
  go_wp2_with (first | (go_at_call 7; refine (q1.out _).mono ?_; rintro e w1 ⟨rfl, b1⟩) | (refine wpList_storeH rfl (.tmp 1) (.tmp 4) rfl w1.heap.size (by simp [Act.eval, Act.put]) z24 h z24_len HLEN.out (by simp [Act.eval, Act.put]) (HB.zero w1) ?_; intro w2 h2 b2) | (refine wpList_loadHw (by simp [Region.wanted, yielded]) (.tmp 1) rfl w1.heap.size (by simp [Act.eval, Act.put]) h HLEN.out (by assumption) ?_) | (go_at_call 6; refine (q2.out _).mono ?_; rintro e w3 ⟨rfl, b3⟩; have h3 := h2.later b3) | (go_at_call 9; refine (q3.out _).mono ?_; rintro e w4 ⟨rfl, b4⟩; have h4 := h3.later b4) | (go_at_call 10; refine (q4.out _).mono ?_; rintro e w5 ⟨rfl, b5⟩; have h5 := h4.later b5) | (go_at_call 11; refine (q5.out _).mono ?_; rintro e w6 ⟨u, rfl, y6, b6⟩; obtain ⟨ua, uc, rfl, _⟩ := y6; have h6 := h5.later b6; rw [F4.out]) | (go_at_call 4; refine (q6.out _).mono ?_; rintro e w7 ⟨u, rfl, o7, b7⟩; have h7 := h6.later b7) | (go_at_call 12; refine (iequal_any _ _ [5] [5] _ ((Cells.ofOwn o7).later (by go_grown)) (Cells.fresh w7 (i64s [5]) 3 _ 1 1 (by rfl) (by rfl) (by decide))).mono ?_; rintro e w8 ⟨rfl, b8⟩))
  go_ret
  have a2 := (b1.alloc b1.size _).trans (b2 w.heap.size b1.size)
  have a3 := a2.trans (b3.mono a2.size)
  have a4 := a3.trans (b4.mono a3.size)
  have a5 := a4.trans (b5.mono a4.size)
  have a6 := a5.trans (b6.mono a5.size)
  have a7 := a6.trans (b7.mono a6.size)
  have a8 := a7.alloc a7.size (.cells #[.int .i64 5] 3)
  exact ⟨rfl, a8.trans (b8.mono a8.size)⟩

end Go.Proofs.Ytmpfpolanndakab
