import Derived.Test.YtcffebkebldjcaaEm
import Derived.Test.YtcffebkebldjcaaEl
import Derived.Test.YtcffebkebldjcaaEj
import Derived.Test.YtcffebkebldjcaaEe
import Derived.Test.YtcffebkebldjcaaEd
import Derived.Test.YtcffebkebldjcaaEb
import Derived.Deep.RegionHeld3
import Derived.Deep.RegionWith
import Derived.Deep.MidRow
import Derived.Deep.Cut
namespace Go.Proofs.Ytcffebkebldjcaa
open Go Go.RowKit
set_option linter.unusedVariables false
set_option linter.unusedSimpArgs false

def LW : List O6 := [(4, false, 0, 2048, 0, 0), (11, false, 0, 7, 0, 0)]
theorem lw_at (w : World) : OxAt (w.alloc (.cells #[.int .i64 4, .bool false, .int .u64 0, .int .u64 2048, .int .u64 0, .int .u64 0, .int .i64 11, .bool false, .int .u64 0, .int .u64 7, .int .u64 0, .int .u64 0] 51)) (.slice (some ⟨w.heap.size, 0, none⟩) 2 2) LW := by
  refine OxAt.ofOwn (base := w.heap.size) (e := 51) ⟨by decide, .inr ⟨w.heap.size, 2, _, rfl, Nat.le_refl _, heap_alloc_last w _, by decide, by decide, by decide, rfl⟩⟩
theorem lw_at1 (w : World) : OxAt (w.alloc (.cells #[.int .i64 4, .bool false, .int .u64 0, .int .u64 2048, .int .u64 0, .int .u64 0, .int .i64 11, .bool false, .int .u64 0, .int .u64 7, .int .u64 0, .int .u64 0] 51)) (.slice (some ⟨w.heap.size, 6, none⟩) 1 1) [(11, false, 0, 7, 0, 0)] := by
  obtain ⟨s, cap, e, -, -, -, h⟩ := lw_at w
  cases e
  refine ⟨_, 1, rfl, by decide, by decide, (fun e => by cases e), fun i f m a b c d hi => ?_⟩
  cases i with
  | zero =>
    obtain ⟨q, off, e, c0, c1, c2, c3, c4, c5⟩ := h 1 f m a b c d hi
    cases e
    exact ⟨_, 6, rfl, c0, c1, c2, c3, c4, c5⟩
  | succ i => simp at hi
theorem lw_fit : Fit LW := by
  intro i f m a b c d hi
  match i, hi with
  | 0, hi => simp [LW] at hi; obtain ⟨rfl, rfl, rfl, rfl, rfl, rfl⟩ := hi; decide
  | 1, hi => simp [LW] at hi; obtain ⟨rfl, rfl, rfl, rfl, rfl, rfl⟩ := hi; decide
  | i + 2, hi => simp [LW] at hi
theorem lw_right : LW.any (fun t => !rgtO t) = false := by decide +kernel
theorem lw_chk : mchk [] LW = none := by decide +kernel
theorem lw_chk1 : mchk [] [(11, false, 0, 7, 0, 0)] = some 9 := by decide +kernel
theorem lw_met : metB LW 10 = true := by decide +kernel
theorem lw_encs : 4 + (encs LW).length = 18 := by decide +kernel
theorem lw_f0 (a b c d : Value) (w : World) : (Instr.field 37 (.agg #[a, b, c, d]) 0).run Try.prog w = .ok (.agg #[a, b]) w := by kernel_rfl
theorem lw_f1 (a b : Value) (w : World) : (Instr.field 35 (.agg #[a, b]) 1).run Try.prog w = .ok b w := by kernel_rfl
theorem lw_ix (w : World) : (Instr.index 39 (.agg (tdc (cubeL LW)).toArray) (.int .i64 11)).run Try.prog w = .ok (td 0 7 0 4294967295) w := by kernel_rfl
set_option maxRecDepth 100000 in
set_option maxHeartbeats 8000000 in
theorem awake11_any (w : World) : Calls Try.prog 8 #[] w fun e w' => e = .returned (.bool true) ∧ Below w.heap.size w w' := by
  have B0 := hide_ (below1 w (.cells #[.int .i64 4, .bool false, .int .u64 0, .int .u64 2048, .int .u64 0, .int .u64 0, .int .i64 11, .bool false, .int .u64 0, .int .u64 7, .int .u64 0, .int .u64 0] 51))
  have hlen : (mencL LW).length = 24 := by
    have := (mdec_enc (L := LW) [] lw_fit lw_right lw_chk).2
    rw [lw_encs] at this
    rw [this]; decide
  have q1 : Hid (Calls Try.prog 9 #[(.slice (some ⟨w.heap.size, 0, none⟩) 2 2)] (w.alloc (.cells #[.int .i64 4, .bool false, .int .u64 0, .int .u64 2048, .int .u64 0, .int .u64 0, .int .i64 11, .bool false, .int .u64 0, .int .u64 7, .int .u64 0, .int .u64 0] 51)) fun e w' => ∃ ao cap, e = .returned (.tuple #[.slice ao 24 cap, .int .i64 0]) ∧ Bytes w' (.slice ao 24 cap) (mencL LW) ∧ Below (w.alloc (.cells #[.int .i64 4, .bool false, .int .u64 0, .int .u64 2048, .int .u64 0, .int .u64 0, .int .i64 11, .bool false, .int .u64 0, .int .u64 7, .int .u64 0, .int .u64 0] 51)).heap.size (w.alloc (.cells #[.int .i64 4, .bool false, .int .u64 0, .int .u64 2048, .int .u64 0, .int .u64 0, .int .i64 11, .bool false, .int .u64 0, .int .u64 7, .int .u64 0, .int .u64 0] 51)) w') := hide_ ((menc_yes _ LW (w.alloc (.cells #[.int .i64 4, .bool false, .int .u64 0, .int .u64 2048, .int .u64 0, .int .u64 0, .int .i64 11, .bool false, .int .u64 0, .int .u64 7, .int .u64 0, .int .u64 0] 51)) (lw_at w) lw_fit (by decide) lw_right (by rw [lw_chk]; rfl) (by have := lw_encs; omega)).mono (by
    rintro e w' ⟨⟨r, rfl, ⟨ao, cap, rfl, hh⟩⟩, b⟩
    have hB : Bytes w' (.slice ao (mencL LW).length cap) (mencL LW) := ⟨ao, cap, rfl, hh⟩
    rw [hlen] at hB ⊢
    exact ⟨ao, cap, rfl, hB, b⟩))
  have q2 : Hid (∀ v W, Bytes W v (mencL LW) → Calls Try.prog 20 #[v] W fun e w' => (∃ r, e = .returned (.tuple #[r, .int .i64 24, .agg #[.bool false, .int .i64 0, .int .i64 0]]) ∧ OxAt w' r LW) ∧ Below W.heap.size W w') := hide_ (fun v W hB => by
    have := (mdec_enc (L := LW) [] lw_fit lw_right lw_chk).1
    rw [lw_encs, List.append_nil] at this
    exact this v W hB)
  have q3 : Hid (∀ r W, Below (w.alloc (.cells #[.int .i64 4, .bool false, .int .u64 0, .int .u64 2048, .int .u64 0, .int .u64 0, .int .i64 11, .bool false, .int .u64 0, .int .u64 7, .int .u64 0, .int .u64 0] 51)).heap.size (w.alloc (.cells #[.int .i64 4, .bool false, .int .u64 0, .int .u64 2048, .int .u64 0, .int .u64 0, .int .i64 11, .bool false, .int .u64 0, .int .u64 7, .int .u64 0, .int .u64 0] 51)) W → OxAt W r LW → Calls Try.prog 14 #[(.slice (some ⟨w.heap.size, 0, none⟩) 2 2), r] W fun e w' => e = .returned (.bool true) ∧ Below W.heap.size W w') := hide_ (fun r W hW hr => by
    have := msame_any (.slice (some ⟨w.heap.size, 0, none⟩) 2 2) r LW LW W ((lw_at w).later hW) hr
    rw [decide_eq_true rfl] at this
    exact this)
  have q4 : Hid (∀ W, Below (w.alloc (.cells #[.int .i64 4, .bool false, .int .u64 0, .int .u64 2048, .int .u64 0, .int .u64 0, .int .i64 11, .bool false, .int .u64 0, .int .u64 7, .int .u64 0, .int .u64 0] 51)).heap.size (w.alloc (.cells #[.int .i64 4, .bool false, .int .u64 0, .int .u64 2048, .int .u64 0, .int .u64 0, .int .i64 11, .bool false, .int .u64 0, .int .u64 7, .int .u64 0, .int .u64 0] 51)) W → Calls Try.prog 12 #[(.slice (some ⟨w.heap.size, 6, none⟩) 1 1)] W fun e w' => e = .returned (.agg #[.bool true, .int .i64 4, .int .i64 9]) ∧ Below W.heap.size W w') := hide_ (fun W hW => by
    have := mcheck_any (.slice (some ⟨w.heap.size, 6, none⟩) 1 1) _ W ((lw_at1 w).later hW)
    rw [lw_chk1] at this
    exact this)
  have q5 : Hid (∀ W, Below (w.alloc (.cells #[.int .i64 4, .bool false, .int .u64 0, .int .u64 2048, .int .u64 0, .int .u64 0, .int .i64 11, .bool false, .int .u64 0, .int .u64 7, .int .u64 0, .int .u64 0] 51)).heap.size (w.alloc (.cells #[.int .i64 4, .bool false, .int .u64 0, .int .u64 2048, .int .u64 0, .int .u64 0, .int .i64 11, .bool false, .int .u64 0, .int .u64 7, .int .u64 0, .int .u64 0] 51)) W → Calls Try.prog 18 #[(.slice (some ⟨w.heap.size, 0, none⟩) 2 2), .int .i64 10] W fun e w' => e = .returned (.bool true) ∧ Below W.heap.size W w') := hide_ (fun W hW => by
    have := met_any (.slice (some ⟨w.heap.size, 0, none⟩) 2 2) LW 10 W ((lw_at w).later hW)
    rw [lw_met] at this
    exact this)
  have q6 : Hid (∀ W, Below (w.alloc (.cells #[.int .i64 4, .bool false, .int .u64 0, .int .u64 2048, .int .u64 0, .int .u64 0, .int .i64 11, .bool false, .int .u64 0, .int .u64 7, .int .u64 0, .int .u64 0] 51)).heap.size (w.alloc (.cells #[.int .i64 4, .bool false, .int .u64 0, .int .u64 2048, .int .u64 0, .int .u64 0, .int .i64 11, .bool false, .int .u64 0, .int .u64 7, .int .u64 0, .int .u64 0] 51)) W → Calls Try.prog 16 #[(.slice (some ⟨w.heap.size, 0, none⟩) 2 2)] W fun e w' => e = .returned (.agg (tdc (cubeL LW)).toArray) ∧ Below W.heap.size W w') := hide_ (fun W hW => mcube_any (.slice (some ⟨w.heap.size, 0, none⟩) 2 2) LW W ((lw_at w).later hW))
  have hix := fun w => lw_ix w
  unfold td at hix
  have ht := fun a b c d w => lw_f0 a b c d w
  have hw := fun a b w => lw_f1 a b w
  have hsl : ∀ wx, (Instr.slice 22 (.slice (some ⟨w.heap.size, 0, none⟩) 2 2) (some (.int .i64 1)) none none).run Try.prog wx = .ok (.slice (some ⟨w.heap.size, 6, none⟩) 1 1) wx := fun wx => by kernel_rfl
  clear hlen
  generalize mencL LW = ML at *
  generalize (tdc (cubeL LW)).toArray = CA at *
  go_enter Try.func8, Try.ntmps8
  go_wp2_with (first | (go_at_call 9; refine q1.out.mono ?_; rintro e w1 ⟨ao, cap, rfl, h1, k1⟩; have h1 := hide_ h1) | (go_at_call 20; refine (q2.out _ _ h1.out).mono ?_; rintro e w2 ⟨⟨r, rfl, hr⟩, b2⟩; have k2 : Below (w.alloc (.cells #[.int .i64 4, .bool false, .int .u64 0, .int .u64 2048, .int .u64 0, .int .u64 0, .int .i64 11, .bool false, .int .u64 0, .int .u64 7, .int .u64 0, .int .u64 0] 51)).heap.size (w.alloc (.cells #[.int .i64 4, .bool false, .int .u64 0, .int .u64 2048, .int .u64 0, .int .u64 0, .int .i64 11, .bool false, .int .u64 0, .int .u64 7, .int .u64 0, .int .u64 0] 51)) (w2.alloc (.cells #[.bool false, .int .i64 0, .int .i64 0] 30)) := (k1.trans (b2.mono k1.size)).trans ((below1 w2 _).mono (k1.trans (b2.mono k1.size)).size); have HR := hide_ (hr.later (below1 w2 (.cells #[.bool false, .int .i64 0, .int .i64 0] 30))); clear hr; obtain ⟨f0, f1, f2, -⟩ := (AB.at0 w2 30 [.bool false, .int .i64 0, .int .i64 0]).three) | (go_at_call 14; refine (q3.out _ _ k2 HR.out).mono ?_; rintro e w3 ⟨rfl, b3⟩; have k3 := k2.trans (b3.mono k2.size)) | (go_at_call 12; refine (q4.out _ k3).mono ?_; rintro e w4 ⟨rfl, b4⟩; have k4 := k3.trans (b4.mono k3.size)) | (go_at_call 18; refine (q5.out _ k4).mono ?_; rintro e w5 ⟨rfl, b5⟩; have k5 := k4.trans (b5.mono k4.size)) | (go_at_call 16; refine (q6.out _ k5).mono ?_; rintro e w6 ⟨rfl, b6⟩; have k6 := k5.trans (b6.mono k5.size)))
  go_ret
  exact ⟨rfl, B0.out.trans (k6.mono B0.out.size)⟩


end Go.Proofs.Ytcffebkebldjcaa
