import Derived.Test.YtmpfpolanndakaaFl
import Derived.Test.YtmpfpolanndakaaFh
import Derived.Test.YtmpfpolanndakaaFj
import Derived.Deep.RegionHeld3
namespace Go.Proofs.Ytmpfpolanndakaa
open Go Go.RowKit
set_option linter.unusedVariables false
set_option linter.unusedSimpArgs false

theorem idxt_is (id : Int) : ∃ (a : Int) (b : Bool), idxt id = .tuple #[.int .i64 a, .bool b] := by
  unfold idxt
  split
  · exact ⟨_, _, rfl⟩
  · exact ⟨_, _, rfl⟩

set_option maxRecDepth 100000 in
set_option maxHeartbeats 4000000 in
theorem fieldTells_any (f id : Int) (w : World) :
    Calls Try.prog 3 #[.int .i64 f, .int .i64 id] w fun e w' => e = .returned (.bool true) ∧ Below w.heap.size w w' := by
  have q1 := hide_ (fun w => index_any id w)
  have q2 := hide_ (fun w => rindex_any id w)
  obtain ⟨a, b, hab⟩ := idxt_is id
  rw [hab] at q1 q2
  clear hab
  have q3 := hide_ (fun w => fid_any f w)
  have q4 := hide_ (fun w => rfid_any f w)
  have q5 := hide_ (fun w => fbits_any f w)
  have q6 := hide_ (fun w => rfbits_any f w)
  have q7 := hide_ (fun w => fsize_any f w)
  have q8 := hide_ (fun w => rfsize_any f w)
  have q9 := hide_ (fun w => fmask_any f w)
  have q10 := hide_ (fun w => rfmask_any f w)
  have q11 := hide_ (fun w => fname_any f w)
  have q12 := hide_ (fun w => rfname_any f w)
  have q13 := hide_ (fun w => fright_any f w)
  have q14 := hide_ (fun w => rfright_any f w)
  have q15 := hide_ (fun w => needs_any f w)
  have q16 := hide_ (fun w => rneeds_any f w)
  generalize fid f = x1 at *
  generalize fsize f = x3 at *
  generalize fbits f = x2 at *
  generalize fmask f = x4 at *
  generalize hx5 : fname f = x5 at *
  clear hx5
  generalize fok f = x6 at *
  generalize nd f = x7 at *
  have e1 : (a == a) = true := by simp
  have e2 : (b == b) = true := by simp
  have e3 : (x1 == x1) = true := by simp
  have e4 : ((x2 : Int) == (x2 : Int)) = true := by simp
  have e5 : ((x3 : Int) == (x3 : Int)) = true := by simp
  have e6 : (x4 == x4) = true := by simp
  have e7 : (x6 == x6) = true := by simp
  go_enter Try.func3, Try.ntmps3
  go_wp2_with (first | (go_at_call 9; refine (q1.out _).mono ?_; rintro e w1 ⟨rfl, h1⟩) | (go_at_call 10; refine (q2.out _).mono ?_; rintro e w2 ⟨rfl, h2⟩) | (go_at_call 11; refine (q3.out _).mono ?_; rintro e w3 ⟨rfl, h3⟩) | (go_at_call 12; refine (q4.out _).mono ?_; rintro e w4 ⟨rfl, rfl⟩) | (go_at_call 13; refine (q5.out _).mono ?_; rintro e w5 ⟨rfl, h5⟩) | (go_at_call 14; refine (q6.out _).mono ?_; rintro e w6 ⟨rfl, rfl⟩) | (go_at_call 15; refine (q7.out _).mono ?_; rintro e w7 ⟨rfl, h7⟩) | (go_at_call 16; refine (q8.out _).mono ?_; rintro e w8 ⟨rfl, rfl⟩) | (go_at_call 17; refine (q9.out _).mono ?_; rintro e w9 ⟨rfl, h9⟩) | (go_at_call 18; refine (q10.out _).mono ?_; rintro e w10 ⟨rfl, rfl⟩) | (go_at_call 19; refine (q11.out _).mono ?_; rintro e w11 ⟨rfl, h11⟩) | (go_at_call 20; refine (q12.out _).mono ?_; rintro e w12 ⟨rfl, rfl⟩) | (go_at_call 21; refine (q13.out _).mono ?_; rintro e w13 ⟨rfl, rfl⟩) | (go_at_call 22; refine (q14.out _).mono ?_; rintro e w14 ⟨rfl, rfl⟩) | (go_at_call 24; refine (q15.out _).mono ?_; rintro e w15 ⟨u15, rfl, n15, h15⟩) | (go_at_call 25; refine (q16.out _).mono ?_; rintro e w16 ⟨u16, rfl, n16, h16⟩) | (go_at_call 23; refine (eqfunc_true u15 u16 x7 _ (n15.later h16) n16).mono ?_; rintro e w17 ⟨rfl, h17⟩) | (go_at_call 27; refine (awake3_any _).mono ?_; rintro e w18 ⟨rfl, h18⟩))
  go_ret
  have a2 := h1.trans (h2.mono h1.size)
  have a3 := a2.trans (h3.mono a2.size)
  have a5 := a3.trans (h5.mono a3.size)
  have a7 := a5.trans (h7.mono a5.size)
  have a9 := a7.trans (h9.mono a7.size)
  have a11 := a9.trans (h11.mono a9.size)
  have a15 := a11.trans (h15.mono a11.size)
  have a16 := a15.trans (h16.mono a15.size)
  have a17 := a16.trans (h17.mono a16.size)
  exact ⟨rfl, a17.trans (h18.mono a17.size)⟩

end Go.Proofs.Ytmpfpolanndakaa
