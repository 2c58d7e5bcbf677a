import Derived.Test.YtmpfpolanndakaaFb
import Derived.Test.YtmpfpolanndakaaN
namespace Go.Proofs.Ytmpfpolanndakaa
open Go Go.RowKit
set_option linter.unusedVariables false
set_option linter.unusedSimpArgs false

def rowt (f : Int) : Value := .tuple #[.string (fname f), .int .i64 (fid f), .int .i64 (fbits f : Int), .bool (fmask f)]
def fsize (f : Int) : Nat := (fbits f + 7) / 8

set_option maxHeartbeats 2000000 in
theorem upper_any (f : Int) (w : World) (h : f < 0 ∨ 12 ≤ f) :
    Calls Try.prog 59 #[.int .i64 f] w fun e w' => e = .returned (rowt f) ∧ w = w' := by
  by_cases h12 : f = 12
  · subst h12
    unfold rowt
    go_enter Try.func59, Try.ntmps59
    go_wp2
    go_returns
    exact ⟨rfl, rfl⟩
  have g12 : (f == 12) = false := by simpa using h12
  by_cases h13 : f = 13
  · subst h13
    unfold rowt
    go_enter Try.func59, Try.ntmps59
    go_wp2
    go_returns
    exact ⟨rfl, rfl⟩
  have g13 : (f == 13) = false := by simpa using h13
  by_cases h14 : f = 14
  · subst h14
    unfold rowt
    go_enter Try.func59, Try.ntmps59
    go_wp2
    go_returns
    exact ⟨rfl, rfl⟩
  have g14 : (f == 14) = false := by simpa using h14
  by_cases h15 : f = 15
  · subst h15
    unfold rowt
    go_enter Try.func59, Try.ntmps59
    go_wp2
    go_returns
    exact ⟨rfl, rfl⟩
  have g15 : (f == 15) = false := by simpa using h15
  by_cases h16 : f = 16
  · subst h16
    unfold rowt
    go_enter Try.func59, Try.ntmps59
    go_wp2
    go_returns
    exact ⟨rfl, rfl⟩
  have g16 : (f == 16) = false := by simpa using h16
  by_cases h17 : f = 17
  · subst h17
    unfold rowt
    go_enter Try.func59, Try.ntmps59
    go_wp2
    go_returns
    exact ⟨rfl, rfl⟩
  have g17 : (f == 17) = false := by simpa using h17
  by_cases h18 : f = 18
  · subst h18
    unfold rowt
    go_enter Try.func59, Try.ntmps59
    go_wp2
    go_returns
    exact ⟨rfl, rfl⟩
  have g18 : (f == 18) = false := by simpa using h18
  by_cases h19 : f = 19
  · subst h19
    unfold rowt
    go_enter Try.func59, Try.ntmps59
    go_wp2
    go_returns
    exact ⟨rfl, rfl⟩
  have g19 : (f == 19) = false := by simpa using h19
  by_cases h20 : f = 20
  · subst h20
    unfold rowt
    go_enter Try.func59, Try.ntmps59
    go_wp2
    go_returns
    exact ⟨rfl, rfl⟩
  have g20 : (f == 20) = false := by simpa using h20
  by_cases h21 : f = 21
  · subst h21
    unfold rowt
    go_enter Try.func59, Try.ntmps59
    go_wp2
    go_returns
    exact ⟨rfl, rfl⟩
  have g21 : (f == 21) = false := by simpa using h21
  by_cases h22 : f = 22
  · subst h22
    unfold rowt
    go_enter Try.func59, Try.ntmps59
    go_wp2
    go_returns
    exact ⟨rfl, rfl⟩
  have g22 : (f == 22) = false := by simpa using h22
  by_cases h23 : f = 23
  · subst h23
    unfold rowt
    go_enter Try.func59, Try.ntmps59
    go_wp2
    go_returns
    exact ⟨rfl, rfl⟩
  have g23 : (f == 23) = false := by simpa using h23
  have hn : ¬ (0 ≤ f ∧ f < 24) := by omega
  obtain ⟨e1, e2, e3, e4⟩ := no_field hn
  unfold rowt
  rw [e1, e2, e3, e4]
  clear e1 e2 e3 e4 hn h h12 h13 h14 h15 h16 h17 h18 h19 h20 h21 h22 h23
  go_enter Try.func59, Try.ntmps59
  go_wp2
  go_returns
  exact ⟨rfl, rfl⟩

set_option maxHeartbeats 2000000 in
theorem row_any (f : Int) (w : World) :
    Calls Try.prog 46 #[.int .i64 f] w fun e w' => e = .returned (rowt f) ∧ w = w' := by
  by_cases h0 : f = 0
  · subst h0
    unfold rowt
    go_enter Try.func46, Try.ntmps46
    go_wp2
    go_returns
    exact ⟨rfl, rfl⟩
  have g0 : (f == 0) = false := by simpa using h0
  by_cases h1 : f = 1
  · subst h1
    unfold rowt
    go_enter Try.func46, Try.ntmps46
    go_wp2
    go_returns
    exact ⟨rfl, rfl⟩
  have g1 : (f == 1) = false := by simpa using h1
  by_cases h2 : f = 2
  · subst h2
    unfold rowt
    go_enter Try.func46, Try.ntmps46
    go_wp2
    go_returns
    exact ⟨rfl, rfl⟩
  have g2 : (f == 2) = false := by simpa using h2
  by_cases h3 : f = 3
  · subst h3
    unfold rowt
    go_enter Try.func46, Try.ntmps46
    go_wp2
    go_returns
    exact ⟨rfl, rfl⟩
  have g3 : (f == 3) = false := by simpa using h3
  by_cases h4 : f = 4
  · subst h4
    unfold rowt
    go_enter Try.func46, Try.ntmps46
    go_wp2
    go_returns
    exact ⟨rfl, rfl⟩
  have g4 : (f == 4) = false := by simpa using h4
  by_cases h5 : f = 5
  · subst h5
    unfold rowt
    go_enter Try.func46, Try.ntmps46
    go_wp2
    go_returns
    exact ⟨rfl, rfl⟩
  have g5 : (f == 5) = false := by simpa using h5
  by_cases h6 : f = 6
  · subst h6
    unfold rowt
    go_enter Try.func46, Try.ntmps46
    go_wp2
    go_returns
    exact ⟨rfl, rfl⟩
  have g6 : (f == 6) = false := by simpa using h6
  by_cases h7 : f = 7
  · subst h7
    unfold rowt
    go_enter Try.func46, Try.ntmps46
    go_wp2
    go_returns
    exact ⟨rfl, rfl⟩
  have g7 : (f == 7) = false := by simpa using h7
  by_cases h8 : f = 8
  · subst h8
    unfold rowt
    go_enter Try.func46, Try.ntmps46
    go_wp2
    go_returns
    exact ⟨rfl, rfl⟩
  have g8 : (f == 8) = false := by simpa using h8
  by_cases h9 : f = 9
  · subst h9
    unfold rowt
    go_enter Try.func46, Try.ntmps46
    go_wp2
    go_returns
    exact ⟨rfl, rfl⟩
  have g9 : (f == 9) = false := by simpa using h9
  by_cases h10 : f = 10
  · subst h10
    unfold rowt
    go_enter Try.func46, Try.ntmps46
    go_wp2
    go_returns
    exact ⟨rfl, rfl⟩
  have g10 : (f == 10) = false := by simpa using h10
  by_cases h11 : f = 11
  · subst h11
    unfold rowt
    go_enter Try.func46, Try.ntmps46
    go_wp2
    go_returns
    exact ⟨rfl, rfl⟩
  have g11 : (f == 11) = false := by simpa using h11
  have h : f < 0 ∨ 12 ≤ f := by omega
  have HU := hide_ (fun w => upper_any f w h)
  clear h h0 h1 h2 h3 h4 h5 h6 h7 h8 h9 h10 h11
  unfold rowt at *
  go_enter Try.func46, Try.ntmps46
  go_wp2_with (go_at_call 59; refine (HU.out _).mono ?_; rintro e w' ⟨rfl, rfl⟩)
  go_returns
  exact ⟨rfl, rfl⟩

theorem fld59_0 (a b c d : Value) (w : World) : (Instr.field 59 (.agg #[a, b, c, d]) 0).run Try.prog w = .ok a w := by kernel_rfl
theorem fld59_1 (a b c d : Value) (w : World) : (Instr.field 59 (.agg #[a, b, c, d]) 1).run Try.prog w = .ok b w := by kernel_rfl
theorem fld59_2 (a b c d : Value) (w : World) : (Instr.field 59 (.agg #[a, b, c, d]) 2).run Try.prog w = .ok c w := by kernel_rfl
theorem fld59_3 (a b c d : Value) (w : World) : (Instr.field 59 (.agg #[a, b, c, d]) 3).run Try.prog w = .ok d w := by kernel_rfl

set_option maxHeartbeats 400000 in
theorem fid_any (f : Int) (w : World) :
    Calls Try.prog 11 #[.int .i64 f] w fun e w' => e = .returned (.int .i64 (fid f)) ∧ Below w.heap.size w w' := by
  have hfl := fun wx => fld59_1 (.string (fname f)) (.int .i64 (fid f)) (.int .i64 (fbits f : Int)) (.bool (fmask f)) wx
  go_enter Try.func11, Try.ntmps11
  go_wp2_with (go_at_call 45; refine (of_any _ _).mono ?_; rintro e w1 ⟨rfl, hb⟩; unfold ofv)
  go_ret
  exact ⟨rfl, by first | exact hb | rfl⟩

set_option maxHeartbeats 400000 in
theorem fbits_any (f : Int) (w : World) :
    Calls Try.prog 13 #[.int .i64 f] w fun e w' => e = .returned (.int .i64 (fbits f : Int)) ∧ Below w.heap.size w w' := by
  have hfl := fun wx => fld59_2 (.string (fname f)) (.int .i64 (fid f)) (.int .i64 (fbits f : Int)) (.bool (fmask f)) wx
  go_enter Try.func13, Try.ntmps13
  go_wp2_with (go_at_call 45; refine (of_any _ _).mono ?_; rintro e w1 ⟨rfl, hb⟩; unfold ofv)
  go_ret
  exact ⟨rfl, by first | exact hb | rfl⟩

set_option maxHeartbeats 400000 in
theorem fmask_any (f : Int) (w : World) :
    Calls Try.prog 17 #[.int .i64 f] w fun e w' => e = .returned (.bool (fmask f)) ∧ Below w.heap.size w w' := by
  have hfl := fun wx => fld59_3 (.string (fname f)) (.int .i64 (fid f)) (.int .i64 (fbits f : Int)) (.bool (fmask f)) wx
  go_enter Try.func17, Try.ntmps17
  go_wp2_with (go_at_call 45; refine (of_any _ _).mono ?_; rintro e w1 ⟨rfl, hb⟩; unfold ofv)
  go_ret
  exact ⟨rfl, by first | exact hb | rfl⟩

set_option maxHeartbeats 400000 in
theorem fname_any (f : Int) (w : World) :
    Calls Try.prog 19 #[.int .i64 f] w fun e w' => e = .returned (.string (fname f)) ∧ Below w.heap.size w w' := by
  have hfl := fun wx => fld59_0 (.string (fname f)) (.int .i64 (fid f)) (.int .i64 (fbits f : Int)) (.bool (fmask f)) wx
  go_enter Try.func19, Try.ntmps19
  go_wp2_with (go_at_call 45; refine (of_any _ _).mono ?_; rintro e w1 ⟨rfl, hb⟩; unfold ofv)
  go_ret
  exact ⟨rfl, by first | exact hb | rfl⟩

set_option maxHeartbeats 400000 in
theorem rfid_any (f : Int) (w : World) :
    Calls Try.prog 12 #[.int .i64 f] w fun e w' => e = .returned (.int .i64 (fid f)) ∧ w = w' := by
  go_enter Try.func12, Try.ntmps12
  go_wp2_with (go_at_call 46; refine (row_any _ _).mono ?_; rintro e w1 ⟨rfl, rfl⟩; unfold rowt)
  go_ret
  exact ⟨rfl, by first | exact hb | rfl⟩

set_option maxHeartbeats 400000 in
theorem rfbits_any (f : Int) (w : World) :
    Calls Try.prog 14 #[.int .i64 f] w fun e w' => e = .returned (.int .i64 (fbits f : Int)) ∧ w = w' := by
  go_enter Try.func14, Try.ntmps14
  go_wp2_with (go_at_call 46; refine (row_any _ _).mono ?_; rintro e w1 ⟨rfl, rfl⟩; unfold rowt)
  go_ret
  exact ⟨rfl, by first | exact hb | rfl⟩

set_option maxHeartbeats 400000 in
theorem rfmask_any (f : Int) (w : World) :
    Calls Try.prog 18 #[.int .i64 f] w fun e w' => e = .returned (.bool (fmask f)) ∧ w = w' := by
  go_enter Try.func18, Try.ntmps18
  go_wp2_with (go_at_call 46; refine (row_any _ _).mono ?_; rintro e w1 ⟨rfl, rfl⟩; unfold rowt)
  go_ret
  exact ⟨rfl, by first | exact hb | rfl⟩

set_option maxHeartbeats 400000 in
theorem rfname_any (f : Int) (w : World) :
    Calls Try.prog 20 #[.int .i64 f] w fun e w' => e = .returned (.string (fname f)) ∧ w = w' := by
  go_enter Try.func20, Try.ntmps20
  go_wp2_with (go_at_call 46; refine (row_any _ _).mono ?_; rintro e w1 ⟨rfl, rfl⟩; unfold rowt)
  go_ret
  exact ⟨rfl, by first | exact hb | rfl⟩

theorem fbits_le (f : Int) : fbits f ≤ 128 := by
  unfold fbits
  split <;> omega
theorem fsize_le (f : Int) : fsize f ≤ 16 := by
  have := fbits_le f
  unfold fsize; omega
theorem fsize_i (f : Int) : ((fsize f : Nat) : Int) = ((fbits f : Int) + 7) / 8 := by
  unfold fsize; omega

set_option maxHeartbeats 400000 in
theorem fsize_any (f : Int) (w : World) :
    Calls Try.prog 15 #[.int .i64 f] w fun e w' => e = .returned (.int .i64 (fsize f : Nat)) ∧ Below w.heap.size w w' := by
  rw [fsize_i]
  have hb := fbits_le f
  have HB := hide_ (fun w => fbits_any f w)
  generalize fbits f = n at *
  go_enter Try.func15, Try.ntmps15
  go_wp2_with (go_at_call 13; refine (HB.out _).mono ?_; rintro e w1 ⟨rfl, hb1⟩)
  go_ret
  exact ⟨ret_int (by first | rfl | omega), hb1⟩

set_option maxHeartbeats 400000 in
theorem rfsize_any (f : Int) (w : World) :
    Calls Try.prog 16 #[.int .i64 f] w fun e w' => e = .returned (.int .i64 (fsize f : Nat)) ∧ w = w' := by
  rw [fsize_i]
  have hb := fbits_le f
  have HB := hide_ (fun w => rfbits_any f w)
  generalize fbits f = n at *
  go_enter Try.func16, Try.ntmps16
  go_wp2_with (go_at_call 14; refine (HB.out _).mono ?_; rintro e w1 ⟨rfl, rfl⟩)
  go_ret
  exact ⟨ret_int (by first | rfl | omega), rfl⟩

end Go.Proofs.Ytmpfpolanndakaa
