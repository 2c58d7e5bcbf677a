import Derived.Test.YtfeioclnhnipmaaPq
import Derived.Deep.RegionHeld3
import Derived.Deep.RegionWith
import Derived.Deep.MidRow
import Derived.Deep.Cut
namespace Go.Proofs.Ytfeioclnhnipmaa
open Go Go.RowKit
set_option linter.unusedVariables false
set_option linter.unusedSimpArgs false
attribute [local go_sem] Oper.semAt_some

theorem AB.three {w : World} {g : Nat} {ty : TypeId} {a b c : Value} (h : AB w g ty [a, b, c]) : w.cell? ⟨g, 0, none⟩ = some a ∧ w.cell? ⟨g, 1, none⟩ = some b ∧ w.cell? ⟨g, 2, none⟩ = some c ∧ w.frozen? ⟨g, 0, none⟩ = false ∧ w.frozen? ⟨g, 1, none⟩ = false ∧ w.frozen? ⟨g, 2, none⟩ = false :=
  ⟨(h.cell (j := 0) rfl).1, (h.cell (j := 1) rfl).1, (h.cell (j := 2) rfl).1, (h.cell (j := 0) rfl).2, (h.cell (j := 1) rfl).2, (h.cell (j := 2) rfl).2⟩
def nameV (o : Bool) (t : Int) : Value := if o = false then .string { data := #[] } else if t = 1 then .string { data := #[98, 97, 100, 32, 114, 101, 113, 117, 101, 115, 116] } else if t = 2 then .string { data := #[98, 97, 100, 32, 97, 99, 116, 105, 111, 110] } else if t = 3 then .string { data := #[98, 97, 100, 32, 105, 110, 115, 116, 114, 117, 99, 116, 105, 111, 110] } else if t = 4 then .string { data := #[98, 97, 100, 32, 109, 97, 116, 99, 104] } else if t = 5 then .string { data := #[102, 108, 111, 119, 32, 109, 111, 100, 32, 102, 97, 105, 108, 101, 100] } else if t = 6 then .string { data := #[103, 114, 111, 117, 112, 32, 109, 111, 100, 32, 102, 97, 105, 108, 101, 100] } else .string { data := #[] }
theorem nameV_str (o : Bool) (t : Int) : ∃ s, nameV o t = .string s := by
  unfold nameV
  (repeat' split) <;> exact ⟨_, rfl⟩
set_option maxRecDepth 100000 in
set_option maxHeartbeats 8000000 in
theorem fof_any (t c : Int) (w : World) :
    Calls Try.prog 10 #[.int .i64 t, .int .i64 c] w fun e w' => e = .returned (.agg #[.bool true, .int .i64 t, .int .i64 c]) ∧ Below w.heap.size w w' := by
  have B0 := hide_ (below1 w (.cells #[.bool true, .int .i64 t, .int .i64 c] 23))
  go_enter Try.func10, Try.ntmps10
  go_wp2
  exact bodyPost_ret (v := .agg #[.bool true, .int .i64 t, .int .i64 c]) (by simp [results, Try.results10, go_sem]) rfl ⟨rfl, B0.out⟩

set_option maxRecDepth 100000 in
set_option maxHeartbeats 8000000 in
theorem rfof_any (t c : Int) (w : World) :
    Calls Try.prog 11 #[.int .i64 t, .int .i64 c] w fun e w' => e = .returned (.agg #[.bool true, .int .i64 t, .int .i64 c]) ∧ Below w.heap.size w w' := by
  have B0 := hide_ (below1 w (.cells #[.bool true, .int .i64 t, .int .i64 c] 23))
  go_enter Try.func11, Try.ntmps11
  go_wp2
  exact bodyPost_ret (v := .agg #[.bool true, .int .i64 t, .int .i64 c]) (by simp [results, Try.results11, go_sem]) rfl ⟨rfl, B0.out⟩

set_option maxRecDepth 100000 in
set_option maxHeartbeats 8000000 in
theorem fnames_any (w : World) :
    Calls Try.prog 25 #[] w fun e w' => e = .returned (.agg #[.string { data := #[] }, .string { data := #[98, 97, 100, 32, 114, 101, 113, 117, 101, 115, 116] }, .string { data := #[98, 97, 100, 32, 97, 99, 116, 105, 111, 110] }, .string { data := #[98, 97, 100, 32, 105, 110, 115, 116, 114, 117, 99, 116, 105, 111, 110] }, .string { data := #[98, 97, 100, 32, 109, 97, 116, 99, 104] }, .string { data := #[102, 108, 111, 119, 32, 109, 111, 100, 32, 102, 97, 105, 108, 101, 100] }, .string { data := #[103, 114, 111, 117, 112, 32, 109, 111, 100, 32, 102, 97, 105, 108, 101, 100] }]) ∧ Below w.heap.size w w' := by
  have B0 := hide_ (below1 w (.cells #[.string { data := #[] }, .string { data := #[98, 97, 100, 32, 114, 101, 113, 117, 101, 115, 116] }, .string { data := #[98, 97, 100, 32, 97, 99, 116, 105, 111, 110] }, .string { data := #[98, 97, 100, 32, 105, 110, 115, 116, 114, 117, 99, 116, 105, 111, 110] }, .string { data := #[98, 97, 100, 32, 109, 97, 116, 99, 104] }, .string { data := #[102, 108, 111, 119, 32, 109, 111, 100, 32, 102, 97, 105, 108, 101, 100] }, .string { data := #[103, 114, 111, 117, 112, 32, 109, 111, 100, 32, 102, 97, 105, 108, 101, 100] }] 45))
  go_enter Try.func25, Try.ntmps25
  go_wp2
  exact bodyPost_ret (v := .agg #[.string { data := #[] }, .string { data := #[98, 97, 100, 32, 114, 101, 113, 117, 101, 115, 116] }, .string { data := #[98, 97, 100, 32, 97, 99, 116, 105, 111, 110] }, .string { data := #[98, 97, 100, 32, 105, 110, 115, 116, 114, 117, 99, 116, 105, 111, 110] }, .string { data := #[98, 97, 100, 32, 109, 97, 116, 99, 104] }, .string { data := #[102, 108, 111, 119, 32, 109, 111, 100, 32, 102, 97, 105, 108, 101, 100] }, .string { data := #[103, 114, 111, 117, 112, 32, 109, 111, 100, 32, 102, 97, 105, 108, 101, 100] }]) (by simp [results, Try.results25, go_sem]) rfl ⟨rfl, B0.out⟩

theorem t_cases (t : Int) : t < 0 ∨ 7 ≤ t ∨ t = 0 ∨ t = 1 ∨ t = 2 ∨ t = 3 ∨ t = 4 ∨ t = 5 ∨ t = 6 := by omega
set_option maxRecDepth 100000 in
set_option maxHeartbeats 8000000 in
theorem fname_no (t c : Int) (w : World) :
    Calls Try.prog 12 #[.agg #[.bool false, .int .i64 t, .int .i64 c]] w fun e w' => e = .returned (nameV false t) ∧ Below w.heap.size w w' := by
  have B0 := hide_ (below1 w (.cells #[.bool false, .int .i64 t, .int .i64 c] 23))
  have A0 := hide_ (AB.at0 w 23 [.bool false, .int .i64 t, .int .i64 c])
  go_enter Try.func12, Try.ntmps12
  go_wp2_with (go_at_call 25; refine (fnames_any _).mono ?_; rintro e w1 ⟨rfl, b1⟩; obtain ⟨x0, x1, x2⟩ := AB.three ((A0.out.later b1).alloc (.cells #[.string { data := #[] }, .string { data := #[98, 97, 100, 32, 114, 101, 113, 117, 101, 115, 116] }, .string { data := #[98, 97, 100, 32, 97, 99, 116, 105, 111, 110] }, .string { data := #[98, 97, 100, 32, 105, 110, 115, 116, 114, 117, 99, 116, 105, 111, 110] }, .string { data := #[98, 97, 100, 32, 109, 97, 116, 99, 104] }, .string { data := #[102, 108, 111, 119, 32, 109, 111, 100, 32, 102, 97, 105, 108, 101, 100] }, .string { data := #[103, 114, 111, 117, 112, 32, 109, 111, 100, 32, 102, 97, 105, 108, 101, 100] }] 45)); have k1 := hide_ (B0.out.trans (b1.mono B0.out.size)); clear b1)
  go_ret
  exact ⟨by first | rfl | simp [nameV], k1.out.trans ((below1 w1 _).mono k1.out.size)⟩

set_option maxRecDepth 100000 in
set_option maxHeartbeats 8000000 in
theorem fname_lo (t c : Int) (h : t < 0) (w : World) :
    Calls Try.prog 12 #[.agg #[.bool true, .int .i64 t, .int .i64 c]] w fun e w' => e = .returned (nameV true t) ∧ Below w.heap.size w w' := by
  have e : nameV true t = .string { data := #[] } := by unfold nameV; rw [if_neg (by decide), if_neg (by omega), if_neg (by omega), if_neg (by omega), if_neg (by omega), if_neg (by omega), if_neg (by omega)]
  rw [e]
  have B0 := hide_ (below1 w (.cells #[.bool true, .int .i64 t, .int .i64 c] 23))
  have A0 := hide_ (AB.at0 w 23 [.bool true, .int .i64 t, .int .i64 c])
  go_enter Try.func12, Try.ntmps12
  go_wp2_with (go_at_call 25; refine (fnames_any _).mono ?_; rintro e w1 ⟨rfl, b1⟩; obtain ⟨x0, x1, x2⟩ := AB.three ((A0.out.later b1).alloc (.cells #[.string { data := #[] }, .string { data := #[98, 97, 100, 32, 114, 101, 113, 117, 101, 115, 116] }, .string { data := #[98, 97, 100, 32, 97, 99, 116, 105, 111, 110] }, .string { data := #[98, 97, 100, 32, 105, 110, 115, 116, 114, 117, 99, 116, 105, 111, 110] }, .string { data := #[98, 97, 100, 32, 109, 97, 116, 99, 104] }, .string { data := #[102, 108, 111, 119, 32, 109, 111, 100, 32, 102, 97, 105, 108, 101, 100] }, .string { data := #[103, 114, 111, 117, 112, 32, 109, 111, 100, 32, 102, 97, 105, 108, 101, 100] }] 45)); have k1 := hide_ (B0.out.trans (b1.mono B0.out.size)); clear b1)
  go_ret
  exact ⟨by first | rfl | simp [nameV], k1.out.trans ((below1 w1 _).mono k1.out.size)⟩

set_option maxRecDepth 100000 in
set_option maxHeartbeats 8000000 in
theorem fname_hi (t c : Int) (h : 7 ≤ t) (w : World) :
    Calls Try.prog 12 #[.agg #[.bool true, .int .i64 t, .int .i64 c]] w fun e w' => e = .returned (nameV true t) ∧ Below w.heap.size w w' := by
  have e : nameV true t = .string { data := #[] } := by unfold nameV; rw [if_neg (by decide), if_neg (by omega), if_neg (by omega), if_neg (by omega), if_neg (by omega), if_neg (by omega), if_neg (by omega)]
  rw [e]
  have B0 := hide_ (below1 w (.cells #[.bool true, .int .i64 t, .int .i64 c] 23))
  have A0 := hide_ (AB.at0 w 23 [.bool true, .int .i64 t, .int .i64 c])
  go_enter Try.func12, Try.ntmps12
  go_wp2_with (go_at_call 25; refine (fnames_any _).mono ?_; rintro e w1 ⟨rfl, b1⟩; obtain ⟨x0, x1, x2⟩ := AB.three ((A0.out.later b1).alloc (.cells #[.string { data := #[] }, .string { data := #[98, 97, 100, 32, 114, 101, 113, 117, 101, 115, 116] }, .string { data := #[98, 97, 100, 32, 97, 99, 116, 105, 111, 110] }, .string { data := #[98, 97, 100, 32, 105, 110, 115, 116, 114, 117, 99, 116, 105, 111, 110] }, .string { data := #[98, 97, 100, 32, 109, 97, 116, 99, 104] }, .string { data := #[102, 108, 111, 119, 32, 109, 111, 100, 32, 102, 97, 105, 108, 101, 100] }, .string { data := #[103, 114, 111, 117, 112, 32, 109, 111, 100, 32, 102, 97, 105, 108, 101, 100] }] 45)); have k1 := hide_ (B0.out.trans (b1.mono B0.out.size)); clear b1)
  go_ret
  exact ⟨by first | rfl | simp [nameV], k1.out.trans ((below1 w1 _).mono k1.out.size)⟩

set_option maxRecDepth 100000 in
set_option maxHeartbeats 8000000 in
theorem fname_0 (c : Int) (w : World) :
    Calls Try.prog 12 #[.agg #[.bool true, .int .i64 0, .int .i64 c]] w fun e w' => e = .returned (nameV true 0) ∧ Below w.heap.size w w' := by
  have B0 := hide_ (below1 w (.cells #[.bool true, .int .i64 0, .int .i64 c] 23))
  have A0 := hide_ (AB.at0 w 23 [.bool true, .int .i64 0, .int .i64 c])
  go_enter Try.func12, Try.ntmps12
  go_wp2_with (go_at_call 25; refine (fnames_any _).mono ?_; rintro e w1 ⟨rfl, b1⟩; obtain ⟨x0, x1, x2⟩ := AB.three ((A0.out.later b1).alloc (.cells #[.string { data := #[] }, .string { data := #[98, 97, 100, 32, 114, 101, 113, 117, 101, 115, 116] }, .string { data := #[98, 97, 100, 32, 97, 99, 116, 105, 111, 110] }, .string { data := #[98, 97, 100, 32, 105, 110, 115, 116, 114, 117, 99, 116, 105, 111, 110] }, .string { data := #[98, 97, 100, 32, 109, 97, 116, 99, 104] }, .string { data := #[102, 108, 111, 119, 32, 109, 111, 100, 32, 102, 97, 105, 108, 101, 100] }, .string { data := #[103, 114, 111, 117, 112, 32, 109, 111, 100, 32, 102, 97, 105, 108, 101, 100] }] 45)); have k1 := hide_ (B0.out.trans (b1.mono B0.out.size)); clear b1)
  go_ret
  exact ⟨by first | rfl | simp [nameV], k1.out.trans ((below1 w1 _).mono k1.out.size)⟩

set_option maxRecDepth 100000 in
set_option maxHeartbeats 8000000 in
theorem fname_1 (c : Int) (w : World) :
    Calls Try.prog 12 #[.agg #[.bool true, .int .i64 1, .int .i64 c]] w fun e w' => e = .returned (nameV true 1) ∧ Below w.heap.size w w' := by
  have B0 := hide_ (below1 w (.cells #[.bool true, .int .i64 1, .int .i64 c] 23))
  have A0 := hide_ (AB.at0 w 23 [.bool true, .int .i64 1, .int .i64 c])
  go_enter Try.func12, Try.ntmps12
  go_wp2_with (go_at_call 25; refine (fnames_any _).mono ?_; rintro e w1 ⟨rfl, b1⟩; obtain ⟨x0, x1, x2⟩ := AB.three ((A0.out.later b1).alloc (.cells #[.string { data := #[] }, .string { data := #[98, 97, 100, 32, 114, 101, 113, 117, 101, 115, 116] }, .string { data := #[98, 97, 100, 32, 97, 99, 116, 105, 111, 110] }, .string { data := #[98, 97, 100, 32, 105, 110, 115, 116, 114, 117, 99, 116, 105, 111, 110] }, .string { data := #[98, 97, 100, 32, 109, 97, 116, 99, 104] }, .string { data := #[102, 108, 111, 119, 32, 109, 111, 100, 32, 102, 97, 105, 108, 101, 100] }, .string { data := #[103, 114, 111, 117, 112, 32, 109, 111, 100, 32, 102, 97, 105, 108, 101, 100] }] 45)); have k1 := hide_ (B0.out.trans (b1.mono B0.out.size)); clear b1)
  go_ret
  exact ⟨by first | rfl | simp [nameV], k1.out.trans ((below1 w1 _).mono k1.out.size)⟩

set_option maxRecDepth 100000 in
set_option maxHeartbeats 8000000 in
theorem fname_2 (c : Int) (w : World) :
    Calls Try.prog 12 #[.agg #[.bool true, .int .i64 2, .int .i64 c]] w fun e w' => e = .returned (nameV true 2) ∧ Below w.heap.size w w' := by
  have B0 := hide_ (below1 w (.cells #[.bool true, .int .i64 2, .int .i64 c] 23))
  have A0 := hide_ (AB.at0 w 23 [.bool true, .int .i64 2, .int .i64 c])
  go_enter Try.func12, Try.ntmps12
  go_wp2_with (go_at_call 25; refine (fnames_any _).mono ?_; rintro e w1 ⟨rfl, b1⟩; obtain ⟨x0, x1, x2⟩ := AB.three ((A0.out.later b1).alloc (.cells #[.string { data := #[] }, .string { data := #[98, 97, 100, 32, 114, 101, 113, 117, 101, 115, 116] }, .string { data := #[98, 97, 100, 32, 97, 99, 116, 105, 111, 110] }, .string { data := #[98, 97, 100, 32, 105, 110, 115, 116, 114, 117, 99, 116, 105, 111, 110] }, .string { data := #[98, 97, 100, 32, 109, 97, 116, 99, 104] }, .string { data := #[102, 108, 111, 119, 32, 109, 111, 100, 32, 102, 97, 105, 108, 101, 100] }, .string { data := #[103, 114, 111, 117, 112, 32, 109, 111, 100, 32, 102, 97, 105, 108, 101, 100] }] 45)); have k1 := hide_ (B0.out.trans (b1.mono B0.out.size)); clear b1)
  go_ret
  exact ⟨by first | rfl | simp [nameV], k1.out.trans ((below1 w1 _).mono k1.out.size)⟩

set_option maxRecDepth 100000 in
set_option maxHeartbeats 8000000 in
theorem fname_3 (c : Int) (w : World) :
    Calls Try.prog 12 #[.agg #[.bool true, .int .i64 3, .int .i64 c]] w fun e w' => e = .returned (nameV true 3) ∧ Below w.heap.size w w' := by
  have B0 := hide_ (below1 w (.cells #[.bool true, .int .i64 3, .int .i64 c] 23))
  have A0 := hide_ (AB.at0 w 23 [.bool true, .int .i64 3, .int .i64 c])
  go_enter Try.func12, Try.ntmps12
  go_wp2_with (go_at_call 25; refine (fnames_any _).mono ?_; rintro e w1 ⟨rfl, b1⟩; obtain ⟨x0, x1, x2⟩ := AB.three ((A0.out.later b1).alloc (.cells #[.string { data := #[] }, .string { data := #[98, 97, 100, 32, 114, 101, 113, 117, 101, 115, 116] }, .string { data := #[98, 97, 100, 32, 97, 99, 116, 105, 111, 110] }, .string { data := #[98, 97, 100, 32, 105, 110, 115, 116, 114, 117, 99, 116, 105, 111, 110] }, .string { data := #[98, 97, 100, 32, 109, 97, 116, 99, 104] }, .string { data := #[102, 108, 111, 119, 32, 109, 111, 100, 32, 102, 97, 105, 108, 101, 100] }, .string { data := #[103, 114, 111, 117, 112, 32, 109, 111, 100, 32, 102, 97, 105, 108, 101, 100] }] 45)); have k1 := hide_ (B0.out.trans (b1.mono B0.out.size)); clear b1)
  go_ret
  exact ⟨by first | rfl | simp [nameV], k1.out.trans ((below1 w1 _).mono k1.out.size)⟩

set_option maxRecDepth 100000 in
set_option maxHeartbeats 8000000 in
theorem fname_4 (c : Int) (w : World) :
    Calls Try.prog 12 #[.agg #[.bool true, .int .i64 4, .int .i64 c]] w fun e w' => e = .returned (nameV true 4) ∧ Below w.heap.size w w' := by
  have B0 := hide_ (below1 w (.cells #[.bool true, .int .i64 4, .int .i64 c] 23))
  have A0 := hide_ (AB.at0 w 23 [.bool true, .int .i64 4, .int .i64 c])
  go_enter Try.func12, Try.ntmps12
  go_wp2_with (go_at_call 25; refine (fnames_any _).mono ?_; rintro e w1 ⟨rfl, b1⟩; obtain ⟨x0, x1, x2⟩ := AB.three ((A0.out.later b1).alloc (.cells #[.string { data := #[] }, .string { data := #[98, 97, 100, 32, 114, 101, 113, 117, 101, 115, 116] }, .string { data := #[98, 97, 100, 32, 97, 99, 116, 105, 111, 110] }, .string { data := #[98, 97, 100, 32, 105, 110, 115, 116, 114, 117, 99, 116, 105, 111, 110] }, .string { data := #[98, 97, 100, 32, 109, 97, 116, 99, 104] }, .string { data := #[102, 108, 111, 119, 32, 109, 111, 100, 32, 102, 97, 105, 108, 101, 100] }, .string { data := #[103, 114, 111, 117, 112, 32, 109, 111, 100, 32, 102, 97, 105, 108, 101, 100] }] 45)); have k1 := hide_ (B0.out.trans (b1.mono B0.out.size)); clear b1)
  go_ret
  exact ⟨by first | rfl | simp [nameV], k1.out.trans ((below1 w1 _).mono k1.out.size)⟩

set_option maxRecDepth 100000 in
set_option maxHeartbeats 8000000 in
theorem fname_5 (c : Int) (w : World) :
    Calls Try.prog 12 #[.agg #[.bool true, .int .i64 5, .int .i64 c]] w fun e w' => e = .returned (nameV true 5) ∧ Below w.heap.size w w' := by
  have B0 := hide_ (below1 w (.cells #[.bool true, .int .i64 5, .int .i64 c] 23))
  have A0 := hide_ (AB.at0 w 23 [.bool true, .int .i64 5, .int .i64 c])
  go_enter Try.func12, Try.ntmps12
  go_wp2_with (go_at_call 25; refine (fnames_any _).mono ?_; rintro e w1 ⟨rfl, b1⟩; obtain ⟨x0, x1, x2⟩ := AB.three ((A0.out.later b1).alloc (.cells #[.string { data := #[] }, .string { data := #[98, 97, 100, 32, 114, 101, 113, 117, 101, 115, 116] }, .string { data := #[98, 97, 100, 32, 97, 99, 116, 105, 111, 110] }, .string { data := #[98, 97, 100, 32, 105, 110, 115, 116, 114, 117, 99, 116, 105, 111, 110] }, .string { data := #[98, 97, 100, 32, 109, 97, 116, 99, 104] }, .string { data := #[102, 108, 111, 119, 32, 109, 111, 100, 32, 102, 97, 105, 108, 101, 100] }, .string { data := #[103, 114, 111, 117, 112, 32, 109, 111, 100, 32, 102, 97, 105, 108, 101, 100] }] 45)); have k1 := hide_ (B0.out.trans (b1.mono B0.out.size)); clear b1)
  go_ret
  exact ⟨by first | rfl | simp [nameV], k1.out.trans ((below1 w1 _).mono k1.out.size)⟩

set_option maxRecDepth 100000 in
set_option maxHeartbeats 8000000 in
theorem fname_6 (c : Int) (w : World) :
    Calls Try.prog 12 #[.agg #[.bool true, .int .i64 6, .int .i64 c]] w fun e w' => e = .returned (nameV true 6) ∧ Below w.heap.size w w' := by
  have B0 := hide_ (below1 w (.cells #[.bool true, .int .i64 6, .int .i64 c] 23))
  have A0 := hide_ (AB.at0 w 23 [.bool true, .int .i64 6, .int .i64 c])
  go_enter Try.func12, Try.ntmps12
  go_wp2_with (go_at_call 25; refine (fnames_any _).mono ?_; rintro e w1 ⟨rfl, b1⟩; obtain ⟨x0, x1, x2⟩ := AB.three ((A0.out.later b1).alloc (.cells #[.string { data := #[] }, .string { data := #[98, 97, 100, 32, 114, 101, 113, 117, 101, 115, 116] }, .string { data := #[98, 97, 100, 32, 97, 99, 116, 105, 111, 110] }, .string { data := #[98, 97, 100, 32, 105, 110, 115, 116, 114, 117, 99, 116, 105, 111, 110] }, .string { data := #[98, 97, 100, 32, 109, 97, 116, 99, 104] }, .string { data := #[102, 108, 111, 119, 32, 109, 111, 100, 32, 102, 97, 105, 108, 101, 100] }, .string { data := #[103, 114, 111, 117, 112, 32, 109, 111, 100, 32, 102, 97, 105, 108, 101, 100] }] 45)); have k1 := hide_ (B0.out.trans (b1.mono B0.out.size)); clear b1)
  go_ret
  exact ⟨by first | rfl | simp [nameV], k1.out.trans ((below1 w1 _).mono k1.out.size)⟩

theorem fname_any (o : Bool) (t c : Int) (w : World) :
    Calls Try.prog 12 #[.agg #[.bool o, .int .i64 t, .int .i64 c]] w fun e w' => e = .returned (nameV o t) ∧ Below w.heap.size w w' := by
  cases o
  · exact fname_no t c w
  · rcases t_cases t with h | h | rfl | rfl | rfl | rfl | rfl | rfl | rfl
    · exact fname_lo t c h w
    · exact fname_hi t c h w
    · exact fname_0 c w
    · exact fname_1 c w
    · exact fname_2 c w
    · exact fname_3 c w
    · exact fname_4 c w
    · exact fname_5 c w
    · exact fname_6 c w

set_option maxRecDepth 100000 in
set_option maxHeartbeats 8000000 in
theorem rfname_no (t c : Int) (w : World) :
    Calls Try.prog 13 #[.agg #[.bool false, .int .i64 t, .int .i64 c]] w fun e w' => e = .returned (nameV false t) ∧ Below w.heap.size w w' := by
  have B0 := hide_ (below1 w (.cells #[.bool false, .int .i64 t, .int .i64 c] 23))
  have A0 := hide_ (AB.at0 w 23 [.bool false, .int .i64 t, .int .i64 c])
  go_enter Try.func13, Try.ntmps13
  go_wp2
  go_ret
  exact ⟨by first | rfl | simp [nameV], B0.out⟩

set_option maxRecDepth 100000 in
set_option maxHeartbeats 8000000 in
theorem rfname_lo (t c : Int) (h : t < 0) (w : World) :
    Calls Try.prog 13 #[.agg #[.bool true, .int .i64 t, .int .i64 c]] w fun e w' => e = .returned (nameV true t) ∧ Below w.heap.size w w' := by
  have e : nameV true t = .string { data := #[] } := by unfold nameV; rw [if_neg (by decide), if_neg (by omega), if_neg (by omega), if_neg (by omega), if_neg (by omega), if_neg (by omega), if_neg (by omega)]
  rw [e]
  have B0 := hide_ (below1 w (.cells #[.bool true, .int .i64 t, .int .i64 c] 23))
  have A0 := hide_ (AB.at0 w 23 [.bool true, .int .i64 t, .int .i64 c])
  go_enter Try.func13, Try.ntmps13
  go_wp2
  go_ret
  exact ⟨by first | rfl | simp [nameV], B0.out⟩

set_option maxRecDepth 100000 in
set_option maxHeartbeats 8000000 in
theorem rfname_hi (t c : Int) (h : 7 ≤ t) (w : World) :
    Calls Try.prog 13 #[.agg #[.bool true, .int .i64 t, .int .i64 c]] w fun e w' => e = .returned (nameV true t) ∧ Below w.heap.size w w' := by
  have e : nameV true t = .string { data := #[] } := by unfold nameV; rw [if_neg (by decide), if_neg (by omega), if_neg (by omega), if_neg (by omega), if_neg (by omega), if_neg (by omega), if_neg (by omega)]
  rw [e]
  have B0 := hide_ (below1 w (.cells #[.bool true, .int .i64 t, .int .i64 c] 23))
  have A0 := hide_ (AB.at0 w 23 [.bool true, .int .i64 t, .int .i64 c])
  go_enter Try.func13, Try.ntmps13
  go_wp2
  go_ret
  exact ⟨by first | rfl | simp [nameV], B0.out⟩

set_option maxRecDepth 100000 in
set_option maxHeartbeats 8000000 in
theorem rfname_0 (c : Int) (w : World) :
    Calls Try.prog 13 #[.agg #[.bool true, .int .i64 0, .int .i64 c]] w fun e w' => e = .returned (nameV true 0) ∧ Below w.heap.size w w' := by
  have B0 := hide_ (below1 w (.cells #[.bool true, .int .i64 0, .int .i64 c] 23))
  have A0 := hide_ (AB.at0 w 23 [.bool true, .int .i64 0, .int .i64 c])
  go_enter Try.func13, Try.ntmps13
  go_wp2
  go_ret
  exact ⟨by first | rfl | simp [nameV], B0.out⟩

set_option maxRecDepth 100000 in
set_option maxHeartbeats 8000000 in
theorem rfname_1 (c : Int) (w : World) :
    Calls Try.prog 13 #[.agg #[.bool true, .int .i64 1, .int .i64 c]] w fun e w' => e = .returned (nameV true 1) ∧ Below w.heap.size w w' := by
  have B0 := hide_ (below1 w (.cells #[.bool true, .int .i64 1, .int .i64 c] 23))
  have A0 := hide_ (AB.at0 w 23 [.bool true, .int .i64 1, .int .i64 c])
  go_enter Try.func13, Try.ntmps13
  go_wp2
  go_ret
  exact ⟨by first | rfl | simp [nameV], B0.out⟩

set_option maxRecDepth 100000 in
set_option maxHeartbeats 8000000 in
theorem rfname_2 (c : Int) (w : World) :
    Calls Try.prog 13 #[.agg #[.bool true, .int .i64 2, .int .i64 c]] w fun e w' => e = .returned (nameV true 2) ∧ Below w.heap.size w w' := by
  have B0 := hide_ (below1 w (.cells #[.bool true, .int .i64 2, .int .i64 c] 23))
  have A0 := hide_ (AB.at0 w 23 [.bool true, .int .i64 2, .int .i64 c])
  go_enter Try.func13, Try.ntmps13
  go_wp2
  go_ret
  exact ⟨by first | rfl | simp [nameV], B0.out⟩

set_option maxRecDepth 100000 in
set_option maxHeartbeats 8000000 in
theorem rfname_3 (c : Int) (w : World) :
    Calls Try.prog 13 #[.agg #[.bool true, .int .i64 3, .int .i64 c]] w fun e w' => e = .returned (nameV true 3) ∧ Below w.heap.size w w' := by
  have B0 := hide_ (below1 w (.cells #[.bool true, .int .i64 3, .int .i64 c] 23))
  have A0 := hide_ (AB.at0 w 23 [.bool true, .int .i64 3, .int .i64 c])
  go_enter Try.func13, Try.ntmps13
  go_wp2
  go_ret
  exact ⟨by first | rfl | simp [nameV], B0.out⟩

set_option maxRecDepth 100000 in
set_option maxHeartbeats 8000000 in
theorem rfname_4 (c : Int) (w : World) :
    Calls Try.prog 13 #[.agg #[.bool true, .int .i64 4, .int .i64 c]] w fun e w' => e = .returned (nameV true 4) ∧ Below w.heap.size w w' := by
  have B0 := hide_ (below1 w (.cells #[.bool true, .int .i64 4, .int .i64 c] 23))
  have A0 := hide_ (AB.at0 w 23 [.bool true, .int .i64 4, .int .i64 c])
  go_enter Try.func13, Try.ntmps13
  go_wp2
  go_ret
  exact ⟨by first | rfl | simp [nameV], B0.out⟩

set_option maxRecDepth 100000 in
set_option maxHeartbeats 8000000 in
theorem rfname_5 (c : Int) (w : World) :
    Calls Try.prog 13 #[.agg #[.bool true, .int .i64 5, .int .i64 c]] w fun e w' => e = .returned (nameV true 5) ∧ Below w.heap.size w w' := by
  have B0 := hide_ (below1 w (.cells #[.bool true, .int .i64 5, .int .i64 c] 23))
  have A0 := hide_ (AB.at0 w 23 [.bool true, .int .i64 5, .int .i64 c])
  go_enter Try.func13, Try.ntmps13
  go_wp2
  go_ret
  exact ⟨by first | rfl | simp [nameV], B0.out⟩

set_option maxRecDepth 100000 in
set_option maxHeartbeats 8000000 in
theorem rfname_6 (c : Int) (w : World) :
    Calls Try.prog 13 #[.agg #[.bool true, .int .i64 6, .int .i64 c]] w fun e w' => e = .returned (nameV true 6) ∧ Below w.heap.size w w' := by
  have B0 := hide_ (below1 w (.cells #[.bool true, .int .i64 6, .int .i64 c] 23))
  have A0 := hide_ (AB.at0 w 23 [.bool true, .int .i64 6, .int .i64 c])
  go_enter Try.func13, Try.ntmps13
  go_wp2
  go_ret
  exact ⟨by first | rfl | simp [nameV], B0.out⟩

theorem rfname_any (o : Bool) (t c : Int) (w : World) :
    Calls Try.prog 13 #[.agg #[.bool o, .int .i64 t, .int .i64 c]] w fun e w' => e = .returned (nameV o t) ∧ Below w.heap.size w w' := by
  cases o
  · exact rfname_no t c w
  · rcases t_cases t with h | h | rfl | rfl | rfl | rfl | rfl | rfl | rfl
    · exact rfname_lo t c h w
    · exact rfname_hi t c h w
    · exact rfname_0 c w
    · exact rfname_1 c w
    · exact rfname_2 c w
    · exact rfname_3 c w
    · exact rfname_4 c w
    · exact rfname_5 c w
    · exact rfname_6 c w

end Go.Proofs.Ytfeioclnhnipmaa
