import Derived.Test.YtmpfpolanndakaaFg
import Derived.Test.YtmpfpolanndakaaFd
namespace Go.Proofs.Ytmpfpolanndakaa
open Go Go.RowKit
set_option linter.unusedVariables false
set_option linter.unusedSimpArgs false

theorem idx6 : idxt 6 = .tuple #[.int .i64 5, .bool true] := fidx_some (k := 5) (by decide) (by rfl) (by decide)

set_option maxRecDepth 100000 in
set_option maxHeartbeats 2000000 in
theorem awake3_any (w : World) :
    Calls Try.prog 27 #[] w fun e w' => e = .returned (.bool true) ∧ Below w.heap.size w w' := by
  have q1 := hide_ (fun w => index_any 6 w)
  rw [idx6] at q1
  have q2 : Hid (∀ w, Calls Try.prog 15 #[.int .i64 5] w fun e w' => e = .returned (.int .i64 2) ∧ Below w.heap.size w w') := hide_ (fun w => fsize_any 5 w)
  have q3 : Hid (∀ w, Calls Try.prog 19 #[.int .i64 0] w fun e w' => e = .returned (.string ⟨#[105, 110, 95, 112, 111, 114, 116]⟩) ∧ Below w.heap.size w w') := hide_ (fun w => fname_any 0 w)
  have q4 : Hid (∀ w, Calls Try.prog 17 #[.int .i64 5] w fun e w' => e = .returned (.bool true) ∧ Below w.heap.size w w') := hide_ (fun w => fmask_any 5 w)
  have q5 : Hid (∀ w, Calls Try.prog 21 #[.int .i64 23] w fun e w' => e = .returned (.bool true) ∧ w = w') := hide_ (fun w => fright_any 23 w)
  have q6 : Hid (∀ w, Calls Try.prog 11 #[.int .i64 23] w fun e w' => e = .returned (.int .i64 34) ∧ Below w.heap.size w w') := hide_ (fun w => fid_any 23 w)
  have q7 : Hid (∀ w, Calls Try.prog 13 #[.int .i64 5] w fun e w' => e = .returned (.int .i64 13) ∧ Below w.heap.size w w') := hide_ (fun w => fbits_any 5 w)
  go_enter Try.func27, Try.ntmps27
  go_wp2_with (first | (go_at_call 9; refine (q1.out _).mono ?_; rintro e w1 ⟨rfl, h1⟩) | (go_at_call 15; refine (q2.out _).mono ?_; rintro e w2 ⟨rfl, h2⟩) | (go_at_call 19; refine (q3.out _).mono ?_; rintro e w3 ⟨rfl, h3⟩) | (go_at_call 17; refine (q4.out _).mono ?_; rintro e w4 ⟨rfl, h4⟩) | (go_at_call 21; refine (q5.out _).mono ?_; rintro e w5 ⟨rfl, rfl⟩) | (go_at_call 24; refine (needs_any 12 _).mono ?_; rintro e w6 ⟨u, rfl, hu, h6⟩; obtain ⟨na, nc, rfl, _⟩ := hu) | (go_at_call 11; refine (q6.out _).mono ?_; rintro e w7 ⟨rfl, h7⟩) | (go_at_call 13; refine (q7.out _).mono ?_; rintro e w8 ⟨rfl, h8⟩))
  go_ret
  have a2 := h1.trans (h2.mono h1.size)
  have a3 := a2.trans (h3.mono a2.size)
  have a4 := a3.trans (h4.mono a3.size)
  have a6 := a4.trans (h6.mono a4.size)
  have a7 := a6.trans (h7.mono a6.size)
  exact ⟨rfl, a7.trans (h8.mono a7.size)⟩

end Go.Proofs.Ytmpfpolanndakaa
