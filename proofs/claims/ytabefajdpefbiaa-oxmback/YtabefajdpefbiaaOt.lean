import Derived.Test.YtabefajdpefbiaaOo
import Derived.Test.YtabefajdpefbiaaOh
import Derived.Test.YtabefajdpefbiaaOi
import Derived.Test.YtabefajdpefbiaaOd
import Derived.Test.YtabefajdpefbiaaOe
import Derived.Deep.RegionHeld3
import Derived.Deep.RegionWith
import Derived.Deep.MidRow
import Derived.Deep.Cut
namespace Go.Proofs.Ytabefajdpefbiaa
open Go Go.RowKit
set_option linter.unusedVariables false
set_option linter.unusedSimpArgs false

theorem aw10_facts : rgt 10 true 0 167772160 0 4278190080 = true ∧ (encL 10 true 0 167772160 0 4278190080).length = 12 ∧ headR (encL 10 true 0 167772160 0 4278190080) = (0, 10, true) ∧ bodyA ((encL 10 true 0 167772160 0 4278190080).drop 4) 10 true = (0, 167772160, 0, 4278190080) ∧ chk 10 true 0 167772160 0 4278190080 = 0 ∧ fok 10 = true ∧ foll 10 true = 8 := by
  refine ⟨by decide +kernel, by decide +kernel, by decide +kernel, by decide +kernel, by decide +kernel, by decide +kernel, by decide +kernel⟩
theorem fldW (a b : Value) (w : World) : (Instr.field 24 (.agg #[a, b]) 1).run Try.prog w = .ok b w := by kernel_rfl
theorem fldT (a b c d : Value) (w : World) : (Instr.field 34 (.agg #[a, b, c, d]) 1).run Try.prog w = .ok (.agg #[c, d]) w := by kernel_rfl

set_option maxRecDepth 100000 in
set_option maxHeartbeats 8000000 in
theorem awake10_any (w : World) :
    Calls Try.prog 16 #[] w fun e w' => e = .returned (.bool true) ∧ Below w.heap.size w w' := by
  obtain ⟨e1, e2, e3, e4, e5, e6, e7⟩ := aw10_facts
  have hdv : decV (encL 10 true 0 167772160 0 4278190080) = .tuple #[ov 10 true 0 167772160 0 4278190080, .int .i64 12, fv false 0 0] := by
    unfold decV
    rw [e3]
    dsimp only
    rw [if_pos rfl, e4]
    dsimp only
    rw [if_pos e5, e7]
    rfl
  have q1 : Hid (∀ w, Calls Try.prog 7 #[.agg #[.int .i64 10, .bool true, .int .u64 0, .int .u64 167772160, .int .u64 0, .int .u64 4278190080]] w fun e w' => ∃ ao cap, e = .returned (.tuple #[.slice ao 12 cap, .int .i64 0]) ∧ Bytes w' (.slice ao 12 cap) (encL 10 true 0 167772160 0 4278190080) ∧ Below w.heap.size w w') := hide_ (fun w => (oenc_yes1 10 0 167772160 0 4278190080 w (by decide) (by decide) (by decide) (by decide) e1).mono (by
    rintro e w' ⟨r, rfl, ⟨ao, cap, rfl, h1, h2, h3, h4, h5⟩, b⟩
    have hB : Bytes w' (.slice ao (encL 10 true 0 167772160 0 4278190080).length cap) (encL 10 true 0 167772160 0 4278190080) := ⟨ao, cap, rfl, h1, h2, h3, h4, h5⟩
    rw [e2] at hB ⊢
    exact ⟨ao, cap, rfl, hB, b⟩))
  have q2 : Hid (∀ v w, Bytes w v (encL 10 true 0 167772160 0 4278190080) → Calls Try.prog 17 #[v] w fun e w' => e = .returned (.tuple #[.agg #[.int .i64 10, .bool true, .int .u64 0, .int .u64 167772160, .int .u64 0, .int .u64 4278190080], .int .i64 12, .agg #[.bool false, .int .i64 0, .int .i64 0]]) ∧ Below w.heap.size w w') := hide_ (fun v w hB => by
    have := odec_any v _ w hB
    rw [hdv] at this
    exact this)
  have q3 : Hid (∀ w, Calls Try.prog 17 #[.slice none 0 0] w fun e w' => e = .returned (.tuple #[.agg #[.int .i64 0, .bool false, .int .u64 0, .int .u64 0, .int .u64 0, .int .u64 0], .int .i64 0, .agg #[.bool true, .int .i64 4, .int .i64 1]]) ∧ Below w.heap.size w w') := hide_ (fun w => odec_any _ [] w (Bytes.nil w))
  have q4 := fun w => oright_any 10 true 0 167772160 0 4278190080 w (by decide) (by decide) (by decide) (by decide)
  rw [e1] at q4
  have q4 : Hid (∀ w, Calls Try.prog 10 #[.agg #[.int .i64 10, .bool true, .int .u64 0, .int .u64 167772160, .int .u64 0, .int .u64 4278190080]] w fun e w' => e = .returned (.bool true) ∧ Below w.heap.size w w') := hide_ q4
  have q5 := fun w => osame_any 10 true 0 167772160 0 4278190080 10 true 0 167772160 0 4278190080 w
  rw [decide_eq_true rfl] at q5
  have q5 : Hid (∀ w, Calls Try.prog 14 #[.agg #[.int .i64 10, .bool true, .int .u64 0, .int .u64 167772160, .int .u64 0, .int .u64 4278190080], .agg #[.int .i64 10, .bool true, .int .u64 0, .int .u64 167772160, .int .u64 0, .int .u64 4278190080]] w fun e w' => e = .returned (.bool true) ∧ Below w.heap.size w w') := hide_ q5
  have q6 := fun w => otern_any 10 true 0 167772160 0 4278190080 w
  rw [e6] at q6
  have q6 : Hid (∀ w, Calls Try.prog 12 #[.agg #[.int .i64 10, .bool true, .int .u64 0, .int .u64 167772160, .int .u64 0, .int .u64 4278190080]] w fun e w' => e = .returned (.agg #[.int .u64 0, .int .u64 167772160, .int .u64 0, .int .u64 4278190080]) ∧ Below w.heap.size w w') := hide_ q6
  have ht := fun a b c d w => fldT a b c d w
  have hw := fun a b w => fldW a b w
  clear e1 e2 e3 e4 e5 e6 e7 hdv
  generalize encL 10 true 0 167772160 0 4278190080 = L at *
  have A0 := hide_ (AB.at0 w 26 [.int .i64 10, .bool true, .int .u64 0, .int .u64 167772160, .int .u64 0, .int .u64 4278190080])
  have B0 := hide_ (below1 w (.cells #[.int .i64 10, .bool true, .int .u64 0, .int .u64 167772160, .int .u64 0, .int .u64 4278190080] 26))
  obtain ⟨a00, a01, a02, a03, a04, a05, -⟩ := A0.out.six
  go_enter Try.func16, Try.ntmps16
  go_wp2_with (first | (go_at_call 7; refine (q1.out _).mono ?_; rintro e w1 ⟨ao, cap, rfl, h1, k1⟩; have h1 := hide_ h1; obtain ⟨a10, a11, a12, a13, a14, a15, -⟩ := (A0.out.later k1).six) | (go_at_call_of 17 (Value.slice ao 12 cap); refine (q2.out _ _ h1.out).mono ?_; rintro e w2 ⟨rfl, b2⟩; have j2 : Below w1.heap.size w1 ((w2.alloc (.cells #[.int .i64 10, .bool true, .int .u64 0, .int .u64 167772160, .int .u64 0, .int .u64 4278190080] 26)).alloc (.cells #[.bool false, .int .i64 0, .int .i64 0] 39)) := b2.trans ((below2 w2 _ _).mono b2.size); have k2 := k1.trans (j2.mono k1.size); have X0 := hide_ ((AB.at0 w2 26 [.int .i64 10, .bool true, .int .u64 0, .int .u64 167772160, .int .u64 0, .int .u64 4278190080]).alloc (.cells #[.bool false, .int .i64 0, .int .i64 0] 39)); have G0 := hide_ (AB.at1 w2 (.cells #[.int .i64 10, .bool true, .int .u64 0, .int .u64 167772160, .int .u64 0, .int .u64 4278190080] 26) 39 [.bool false, .int .i64 0, .int .i64 0])) | (go_at_call 17; refine (q3.out _).mono ?_; rintro e w3 ⟨rfl, b3⟩; have j3 : Below ((w2.alloc (.cells #[.int .i64 10, .bool true, .int .u64 0, .int .u64 167772160, .int .u64 0, .int .u64 4278190080] 26)).alloc (.cells #[.bool false, .int .i64 0, .int .i64 0] 39)).heap.size ((w2.alloc (.cells #[.int .i64 10, .bool true, .int .u64 0, .int .u64 167772160, .int .u64 0, .int .u64 4278190080] 26)).alloc (.cells #[.bool false, .int .i64 0, .int .i64 0] 39)) ((w3.alloc (.cells #[.int .i64 0, .bool false, .int .u64 0, .int .u64 0, .int .u64 0, .int .u64 0] 26)).alloc (.cells #[.bool true, .int .i64 4, .int .i64 1] 39)) := b3.trans ((below2 w3 _ _).mono b3.size); have k3 := k2.trans (j3.mono k2.size); obtain ⟨a30, a31, a32, a33, a34, a35, -⟩ := (A0.out.later k3).six; obtain ⟨x30, x31, x32, x33, x34, x35, -⟩ := (X0.out.later j3).six; obtain ⟨g0, g1, g2, -⟩ := (G0.out.later j3).three; obtain ⟨u0, u1, u2, -⟩ := (AB.at1 w3 (.cells #[.int .i64 0, .bool false, .int .u64 0, .int .u64 0, .int .u64 0, .int .u64 0] 26) 39 [.bool true, .int .i64 4, .int .i64 1]).three) | (go_at_call 10; refine (q4.out _).mono ?_; rintro e w4 ⟨rfl, b4⟩; have k4 := k3.trans (b4.mono k3.size); have j4 := j3.trans (b4.mono j3.size); obtain ⟨a40, a41, a42, a43, a44, a45, -⟩ := (A0.out.later k4).six; obtain ⟨x40, x41, x42, x43, x44, x45, -⟩ := (X0.out.later j4).six) | (go_at_call 14; refine (q5.out _).mono ?_; rintro e w5 ⟨rfl, b5⟩; have k5 := k4.trans (b5.mono k4.size); obtain ⟨a50, a51, a52, a53, a54, a55, -⟩ := (A0.out.later k5).six) | (go_at_call 12; refine (q6.out _).mono ?_; rintro e w6 ⟨rfl, b6⟩; have k6 := k5.trans (b6.mono k5.size)))
  go_ret
  exact ⟨rfl, B0.out.trans (k6.mono B0.out.size)⟩


end Go.Proofs.Ytabefajdpefbiaa
