import Derived.Test.YthhijfphfcmniaaGreatAae
import Derived.Deep.RegionHeld3
import Derived.Deep.RegionWith
import Derived.Deep.MidRow
import Derived.Deep.Cut
set_option maxRecDepth 100000
set_option maxHeartbeats 8000000
set_option linter.unusedVariables false
set_option linter.unusedSimpArgs false
namespace Go.Proofs.YthhijfphfcmniaaGreat
open Go Go.RowKit
theorem fo2_form (o : Option Int) : ∃ i t c, fo2 o = .agg #[.bool i, .int .i64 t, .int .i64 c] ∧ i = o.isSome := ⟨_, _, _, rfl, rfl⟩
theorem own_0 (p x q y f : Int) (m : Bool) (a b c d : Nat) (w : World) :
    Calls Tryz.prog 137 #[.agg #[.int .i64 0, .int .i64 p, .int .i64 x, .int .i64 q, .int .i64 y, .int .i64 f, .bool m, .int .u64 (a : Int), .int .u64 (b : Int), .int .u64 (c : Int), .int .u64 (d : Int)]] w fun e w' => e = .returned (.agg #[.int .i64 0, .int .i64 p, .int .i64 x, .int .i64 0, .int .i64 0, .int .i64 0, .bool false, .int .u64 0, .int .u64 0, .int .u64 0, .int .u64 0]) ∧ Below w.heap.size w w' := by
  have B0 := h_ (below3 w (.cells #[.int .i64 0, .int .i64 p, .int .i64 x, .int .i64 q, .int .i64 y, .int .i64 f, .bool m, .int .u64 (a : Int), .int .u64 (b : Int), .int .u64 (c : Int), .int .u64 (d : Int)] 61) (.cells #[.int .i64 0, .int .i64 p, .int .i64 x, .int .i64 0, .int .i64 0, .int .i64 0, .bool false, .int .u64 0, .int .u64 0, .int .u64 0, .int .u64 0] 61) (.cells #[.int .i64 0, .int .i64 p, .int .i64 x, .int .i64 0, .int .i64 0, .int .i64 0, .bool false, .int .u64 0, .int .u64 0, .int .u64 0, .int .u64 0] 61))
  go_enter Tryz.func137, Tryz.ntmps137
  go_wp2_with fail
  go_region
  all_goals go_wp2_with fail
  all_goals
    exact bodyPost_ret (v := .agg #[.int .i64 0, .int .i64 p, .int .i64 x, .int .i64 0, .int .i64 0, .int .i64 0, .bool false, .int .u64 0, .int .u64 0, .int .u64 0, .int .u64 0]) (by simp [results, Tryz.results137, go_sem]) rfl ⟨rfl, by first | exact B0.out | go_grown⟩
theorem own_22 (p x q y f : Int) (m : Bool) (a b c d : Nat) (w : World) :
    Calls Tryz.prog 137 #[.agg #[.int .i64 22, .int .i64 p, .int .i64 x, .int .i64 q, .int .i64 y, .int .i64 f, .bool m, .int .u64 (a : Int), .int .u64 (b : Int), .int .u64 (c : Int), .int .u64 (d : Int)]] w fun e w' => e = .returned (.agg #[.int .i64 22, .int .i64 0, .int .i64 0, .int .i64 q, .int .i64 0, .int .i64 0, .bool false, .int .u64 0, .int .u64 0, .int .u64 0, .int .u64 0]) ∧ Below w.heap.size w w' := by
  have B0 := h_ (below3 w (.cells #[.int .i64 22, .int .i64 p, .int .i64 x, .int .i64 q, .int .i64 y, .int .i64 f, .bool m, .int .u64 (a : Int), .int .u64 (b : Int), .int .u64 (c : Int), .int .u64 (d : Int)] 61) (.cells #[.int .i64 22, .int .i64 0, .int .i64 0, .int .i64 q, .int .i64 0, .int .i64 0, .bool false, .int .u64 0, .int .u64 0, .int .u64 0, .int .u64 0] 61) (.cells #[.int .i64 22, .int .i64 0, .int .i64 0, .int .i64 q, .int .i64 0, .int .i64 0, .bool false, .int .u64 0, .int .u64 0, .int .u64 0, .int .u64 0] 61))
  go_enter Tryz.func137, Tryz.ntmps137
  go_wp2_with fail
  exact bodyPost_ret (v := .agg #[.int .i64 22, .int .i64 0, .int .i64 0, .int .i64 q, .int .i64 0, .int .i64 0, .bool false, .int .u64 0, .int .u64 0, .int .u64 0, .int .u64 0]) (by simp [results, Tryz.results137, go_sem]) rfl ⟨rfl, by first | exact B0.out | go_grown⟩
theorem own_17 (p x q y f : Int) (m : Bool) (a b c d : Nat) (w : World) :
    Calls Tryz.prog 137 #[.agg #[.int .i64 17, .int .i64 p, .int .i64 x, .int .i64 q, .int .i64 y, .int .i64 f, .bool m, .int .u64 (a : Int), .int .u64 (b : Int), .int .u64 (c : Int), .int .u64 (d : Int)]] w fun e w' => e = .returned (.agg #[.int .i64 17, .int .i64 0, .int .i64 0, .int .i64 0, .int .i64 y, .int .i64 0, .bool false, .int .u64 0, .int .u64 0, .int .u64 0, .int .u64 0]) ∧ Below w.heap.size w w' := by
  have B0 := h_ (below3 w (.cells #[.int .i64 17, .int .i64 p, .int .i64 x, .int .i64 q, .int .i64 y, .int .i64 f, .bool m, .int .u64 (a : Int), .int .u64 (b : Int), .int .u64 (c : Int), .int .u64 (d : Int)] 61) (.cells #[.int .i64 17, .int .i64 0, .int .i64 0, .int .i64 0, .int .i64 y, .int .i64 0, .bool false, .int .u64 0, .int .u64 0, .int .u64 0, .int .u64 0] 61) (.cells #[.int .i64 17, .int .i64 0, .int .i64 0, .int .i64 0, .int .i64 y, .int .i64 0, .bool false, .int .u64 0, .int .u64 0, .int .u64 0, .int .u64 0] 61))
  go_enter Tryz.func137, Tryz.ntmps137
  go_wp2_with fail
  exact bodyPost_ret (v := .agg #[.int .i64 17, .int .i64 0, .int .i64 0, .int .i64 0, .int .i64 y, .int .i64 0, .bool false, .int .u64 0, .int .u64 0, .int .u64 0, .int .u64 0]) (by simp [results, Tryz.results137, go_sem]) rfl ⟨rfl, by first | exact B0.out | go_grown⟩
theorem own_25 (p x q y f : Int) (m : Bool) (a b c d : Nat) (w : World) :
    Calls Tryz.prog 137 #[.agg #[.int .i64 25, .int .i64 p, .int .i64 x, .int .i64 q, .int .i64 y, .int .i64 f, .bool m, .int .u64 (a : Int), .int .u64 (b : Int), .int .u64 (c : Int), .int .u64 (d : Int)]] w fun e w' => e = .returned (.agg #[.int .i64 25, .int .i64 0, .int .i64 0, .int .i64 0, .int .i64 0, .int .i64 f, .bool m, .int .u64 (a : Int), .int .u64 (b : Int), .int .u64 (c : Int), .int .u64 (d : Int)]) ∧ Below w.heap.size w w' := by
  have B0 := h_ (below3 w (.cells #[.int .i64 25, .int .i64 p, .int .i64 x, .int .i64 q, .int .i64 y, .int .i64 f, .bool m, .int .u64 (a : Int), .int .u64 (b : Int), .int .u64 (c : Int), .int .u64 (d : Int)] 61) (.cells #[.int .i64 25, .int .i64 0, .int .i64 0, .int .i64 0, .int .i64 0, .int .i64 f, .bool m, .int .u64 (a : Int), .int .u64 (b : Int), .int .u64 (c : Int), .int .u64 (d : Int)] 61) (.cells #[.int .i64 25, .int .i64 0, .int .i64 0, .int .i64 0, .int .i64 0, .int .i64 f, .bool m, .int .u64 (a : Int), .int .u64 (b : Int), .int .u64 (c : Int), .int .u64 (d : Int)] 61))
  go_enter Tryz.func137, Tryz.ntmps137
  go_wp2_with fail
  exact bodyPost_ret (v := .agg #[.int .i64 25, .int .i64 0, .int .i64 0, .int .i64 0, .int .i64 0, .int .i64 f, .bool m, .int .u64 (a : Int), .int .u64 (b : Int), .int .u64 (c : Int), .int .u64 (d : Int)]) (by simp [results, Tryz.results137, go_sem]) rfl ⟨rfl, by first | exact B0.out | go_grown⟩
theorem own_z (k p x q y f : Int) (m : Bool) (a b c d : Nat) (w : World) (h0 : k ≠ 0) (h22 : k ≠ 22) (h17 : k ≠ 17) (h25 : k ≠ 25) :
    Calls Tryz.prog 137 #[.agg #[.int .i64 k, .int .i64 p, .int .i64 x, .int .i64 q, .int .i64 y, .int .i64 f, .bool m, .int .u64 (a : Int), .int .u64 (b : Int), .int .u64 (c : Int), .int .u64 (d : Int)]] w fun e w' => e = .returned (.agg #[.int .i64 k, .int .i64 0, .int .i64 0, .int .i64 0, .int .i64 0, .int .i64 0, .bool false, .int .u64 0, .int .u64 0, .int .u64 0, .int .u64 0]) ∧ Below w.heap.size w w' := by
  have B0 := h_ (below3 w (.cells #[.int .i64 k, .int .i64 p, .int .i64 x, .int .i64 q, .int .i64 y, .int .i64 f, .bool m, .int .u64 (a : Int), .int .u64 (b : Int), .int .u64 (c : Int), .int .u64 (d : Int)] 61) (.cells #[.int .i64 k, .int .i64 0, .int .i64 0, .int .i64 0, .int .i64 0, .int .i64 0, .bool false, .int .u64 0, .int .u64 0, .int .u64 0, .int .u64 0] 61) (.cells #[.int .i64 k, .int .i64 0, .int .i64 0, .int .i64 0, .int .i64 0, .int .i64 0, .bool false, .int .u64 0, .int .u64 0, .int .u64 0, .int .u64 0] 61))
  go_enter Tryz.func137, Tryz.ntmps137
  go_wp2_with fail
  exact bodyPost_ret (v := .agg #[.int .i64 k, .int .i64 0, .int .i64 0, .int .i64 0, .int .i64 0, .int .i64 0, .bool false, .int .u64 0, .int .u64 0, .int .u64 0, .int .u64 0]) (by simp [results, Tryz.results137, go_sem]) rfl ⟨rfl, by first | exact B0.out | go_grown⟩
theorem chk_0a (p x q y f : Int) (m : Bool) (a b c d : Nat) (w : World) (hg : goB p = false) :
    Calls Tryz.prog 138 #[.agg #[.int .i64 0, .int .i64 p, .int .i64 x, .int .i64 q, .int .i64 y, .int .i64 f, .bool m, .int .u64 (a : Int), .int .u64 (b : Int), .int .u64 (c : Int), .int .u64 (d : Int)]] w fun e w' => e = .returned (fo2 (achk 0 p x q y f m)) ∧ Below w.heap.size w w' := by
  have e0 : achk 0 p x q y f m = some 4 := by simp [achk, hg]
  rw [e0]
  clear e0
  have F0 := h_ (AB.at1 w (.cells #[.int .i64 0, .int .i64 p, .int .i64 x, .int .i64 q, .int .i64 y, .int .i64 f, .bool m, .int .u64 (a : Int), .int .u64 (b : Int), .int .u64 (c : Int), .int .u64 (d : Int)] 61) 44 [.bool false, .int .i64 0, .int .i64 0])
  have B0 := h_ (below2 w (.cells #[.int .i64 0, .int .i64 p, .int .i64 x, .int .i64 q, .int .i64 y, .int .i64 f, .bool m, .int .u64 (a : Int), .int .u64 (b : Int), .int .u64 (c : Int), .int .u64 (d : Int)] 61) (.cells #[.bool false, .int .i64 0, .int .i64 0] 44))
  have qg := fun w => goesOut_any p w
  rw [hg] at qg
  have qg := h_ qg
  have qr := h_ (fun k w => refuse2_any k w)
  unfold fv at qr
  have e1 : fo2 (some 4) = .agg #[.bool true, .int .i64 2, .int .i64 4] := rfl
  rw [e1]
  clear e1
  go_enter Tryz.func138, Tryz.ntmps138
  go_wp2_with (first | (go_at_call 145; refine (qr.out _ _).mono ?_; rintro e w1 ⟨rfl, b1⟩; obtain ⟨s0, s1, s2, s3, s4, s5⟩ := (F0.out.later b1).three; obtain ⟨u0, u1, u2, -⟩ := ((F0.out.later b1).set3 (.bool true) (.int .i64 2) (.int .i64 4)).three; have bb := below_set3 (g := w.heap.size + 1) (B0.out.trans (b1.mono B0.out.size)) (by omega) (.bool true) (.int .i64 2) (.int .i64 4)) | (go_at_call 156; refine (qg.out _).mono ?_; rintro e w' ⟨rfl, rfl⟩))
  exact bodyPost_ret (v := .agg #[.bool true, .int .i64 2, .int .i64 4]) (by simp [results, Tryz.results138, go_sem, u0, u1, u2]) rfl ⟨rfl, bb⟩
theorem chk_0b (p x q y f : Int) (m : Bool) (a b c d : Nat) (w : World) (hg : goB p = true) :
    Calls Tryz.prog 138 #[.agg #[.int .i64 0, .int .i64 p, .int .i64 x, .int .i64 q, .int .i64 y, .int .i64 f, .bool m, .int .u64 (a : Int), .int .u64 (b : Int), .int .u64 (c : Int), .int .u64 (d : Int)]] w fun e w' => e = .returned (fo2 (achk 0 p x q y f m)) ∧ Below w.heap.size w w' := by
  have e0 : achk 0 p x q y f m = if tkB p x then none else some 5 := by simp [achk, hg]
  rw [e0]
  clear e0
  have F0 := h_ (AB.at1 w (.cells #[.int .i64 0, .int .i64 p, .int .i64 x, .int .i64 q, .int .i64 y, .int .i64 f, .bool m, .int .u64 (a : Int), .int .u64 (b : Int), .int .u64 (c : Int), .int .u64 (d : Int)] 61) 44 [.bool false, .int .i64 0, .int .i64 0])
  have B0 := h_ (below2 w (.cells #[.int .i64 0, .int .i64 p, .int .i64 x, .int .i64 q, .int .i64 y, .int .i64 f, .bool m, .int .u64 (a : Int), .int .u64 (b : Int), .int .u64 (c : Int), .int .u64 (d : Int)] 61) (.cells #[.bool false, .int .i64 0, .int .i64 0] 44))
  have qg := fun w => goesOut_any p w
  rw [hg] at qg
  have qg := h_ qg
  have qt := h_ (fun w => takes_any p x w)
  have qu := fun w => unless_any (tkB p x) 5 w
  obtain ⟨i, tt, cc, ho, -⟩ := fo2_form (if tkB p x then none else some 5)
  rw [ho] at qu ⊢
  have qu := h_ qu
  clear ho
  generalize tkB p x = z at *
  go_enter Tryz.func138, Tryz.ntmps138
  go_wp2_with (first | (go_at_call 157; refine (qu.out _).mono ?_; rintro e w1 ⟨rfl, b1⟩; obtain ⟨s0, s1, s2, s3, s4, s5⟩ := (F0.out.later b1).three; obtain ⟨u0, u1, u2, -⟩ := ((F0.out.later b1).set3 (.bool i) (.int .i64 tt) (.int .i64 cc)).three; have bb := below_set3 (g := w.heap.size + 1) (B0.out.trans (b1.mono B0.out.size)) (by omega) (.bool i) (.int .i64 tt) (.int .i64 cc)) | (go_at_call 156; refine (qg.out _).mono ?_; rintro e w' ⟨rfl, rfl⟩) | (go_at_call 158; refine (qt.out _).mono ?_; rintro e w' ⟨rfl, rfl⟩))
  exact bodyPost_ret (v := .agg #[.bool i, .int .i64 tt, .int .i64 cc]) (by simp [results, Tryz.results138, go_sem, u0, u1, u2]) rfl ⟨rfl, bb⟩
theorem chk_22a (p x q y f : Int) (m : Bool) (a b c d : Nat) (w : World) (hq : 0 ≤ q) :
    Calls Tryz.prog 138 #[.agg #[.int .i64 22, .int .i64 p, .int .i64 x, .int .i64 q, .int .i64 y, .int .i64 f, .bool m, .int .u64 (a : Int), .int .u64 (b : Int), .int .u64 (c : Int), .int .u64 (d : Int)]] w fun e w' => e = .returned (fo2 (achk 22 p x q y f m)) ∧ Below w.heap.size w w' := by
  have e0 : achk 22 p x q y f m = if decide (q ≤ 4294967040) then none else some 9 := by simp [achk, hq]
  rw [e0]
  clear e0
  have F0 := h_ (AB.at1 w (.cells #[.int .i64 22, .int .i64 p, .int .i64 x, .int .i64 q, .int .i64 y, .int .i64 f, .bool m, .int .u64 (a : Int), .int .u64 (b : Int), .int .u64 (c : Int), .int .u64 (d : Int)] 61) 44 [.bool false, .int .i64 0, .int .i64 0])
  have B0 := h_ (below2 w (.cells #[.int .i64 22, .int .i64 p, .int .i64 x, .int .i64 q, .int .i64 y, .int .i64 f, .bool m, .int .u64 (a : Int), .int .u64 (b : Int), .int .u64 (c : Int), .int .u64 (d : Int)] 61) (.cells #[.bool false, .int .i64 0, .int .i64 0] 44))
  have qu := fun w => unless_any (decide (q ≤ 4294967040)) 9 w
  obtain ⟨i, tt, cc, ho, -⟩ := fo2_form (if decide (q ≤ 4294967040) then none else some 9)
  rw [ho] at qu ⊢
  have qu := h_ qu
  clear ho
  go_enter Tryz.func138, Tryz.ntmps138
  go_wp2_with (first | (go_at_call 157; refine (qu.out _).mono ?_; rintro e w1 ⟨rfl, b1⟩; obtain ⟨s0, s1, s2, s3, s4, s5⟩ := (F0.out.later b1).three; obtain ⟨u0, u1, u2, -⟩ := ((F0.out.later b1).set3 (.bool i) (.int .i64 tt) (.int .i64 cc)).three; have bb := below_set3 (g := w.heap.size + 1) (B0.out.trans (b1.mono B0.out.size)) (by omega) (.bool i) (.int .i64 tt) (.int .i64 cc)))
  exact bodyPost_ret (v := .agg #[.bool i, .int .i64 tt, .int .i64 cc]) (by simp [results, Tryz.results138, go_sem, u0, u1, u2]) rfl ⟨rfl, bb⟩
theorem chk_22b (p x q y f : Int) (m : Bool) (a b c d : Nat) (w : World) (hq : ¬ 0 ≤ q) :
    Calls Tryz.prog 138 #[.agg #[.int .i64 22, .int .i64 p, .int .i64 x, .int .i64 q, .int .i64 y, .int .i64 f, .bool m, .int .u64 (a : Int), .int .u64 (b : Int), .int .u64 (c : Int), .int .u64 (d : Int)]] w fun e w' => e = .returned (fo2 (achk 22 p x q y f m)) ∧ Below w.heap.size w w' := by
  have e0 : achk 22 p x q y f m = if false = true then none else some 9 := by simp [achk, hq]
  rw [e0]
  clear e0
  have F0 := h_ (AB.at1 w (.cells #[.int .i64 22, .int .i64 p, .int .i64 x, .int .i64 q, .int .i64 y, .int .i64 f, .bool m, .int .u64 (a : Int), .int .u64 (b : Int), .int .u64 (c : Int), .int .u64 (d : Int)] 61) 44 [.bool false, .int .i64 0, .int .i64 0])
  have B0 := h_ (below2 w (.cells #[.int .i64 22, .int .i64 p, .int .i64 x, .int .i64 q, .int .i64 y, .int .i64 f, .bool m, .int .u64 (a : Int), .int .u64 (b : Int), .int .u64 (c : Int), .int .u64 (d : Int)] 61) (.cells #[.bool false, .int .i64 0, .int .i64 0] 44))
  have qu := fun w => unless_any (false) 9 w
  obtain ⟨i, tt, cc, ho, -⟩ := fo2_form (if false = true then none else some 9)
  rw [ho] at qu ⊢
  have qu := h_ qu
  clear ho
  go_enter Tryz.func138, Tryz.ntmps138
  go_wp2_with (first | (go_at_call 157; refine (qu.out _).mono ?_; rintro e w1 ⟨rfl, b1⟩; obtain ⟨s0, s1, s2, s3, s4, s5⟩ := (F0.out.later b1).three; obtain ⟨u0, u1, u2, -⟩ := ((F0.out.later b1).set3 (.bool i) (.int .i64 tt) (.int .i64 cc)).three; have bb := below_set3 (g := w.heap.size + 1) (B0.out.trans (b1.mono B0.out.size)) (by omega) (.bool i) (.int .i64 tt) (.int .i64 cc)))
  exact bodyPost_ret (v := .agg #[.bool i, .int .i64 tt, .int .i64 cc]) (by simp [results, Tryz.results138, go_sem, u0, u1, u2]) rfl ⟨rfl, bb⟩
theorem chk_17a (p x q y f : Int) (m : Bool) (a b c d : Nat) (w : World) (hq : y = 33024) :
    Calls Tryz.prog 138 #[.agg #[.int .i64 17, .int .i64 p, .int .i64 x, .int .i64 q, .int .i64 y, .int .i64 f, .bool m, .int .u64 (a : Int), .int .u64 (b : Int), .int .u64 (c : Int), .int .u64 (d : Int)]] w fun e w' => e = .returned (fo2 (achk 17 p x q y f m)) ∧ Below w.heap.size w w' := by
  have e0 : achk 17 p x q y f m = if true = true then none else some 5 := by simp [achk, hq]
  rw [e0]
  clear e0
  have F0 := h_ (AB.at1 w (.cells #[.int .i64 17, .int .i64 p, .int .i64 x, .int .i64 q, .int .i64 y, .int .i64 f, .bool m, .int .u64 (a : Int), .int .u64 (b : Int), .int .u64 (c : Int), .int .u64 (d : Int)] 61) 44 [.bool false, .int .i64 0, .int .i64 0])
  have B0 := h_ (below2 w (.cells #[.int .i64 17, .int .i64 p, .int .i64 x, .int .i64 q, .int .i64 y, .int .i64 f, .bool m, .int .u64 (a : Int), .int .u64 (b : Int), .int .u64 (c : Int), .int .u64 (d : Int)] 61) (.cells #[.bool false, .int .i64 0, .int .i64 0] 44))
  subst hq
  have qu := fun w => unless_any (true) 5 w
  obtain ⟨i, tt, cc, ho, -⟩ := fo2_form (if true = true then none else some 5)
  rw [ho] at qu ⊢
  have qu := h_ qu
  clear ho
  go_enter Tryz.func138, Tryz.ntmps138
  go_wp2_with (first | (go_at_call 157; refine (qu.out _).mono ?_; rintro e w1 ⟨rfl, b1⟩; obtain ⟨s0, s1, s2, s3, s4, s5⟩ := (F0.out.later b1).three; obtain ⟨u0, u1, u2, -⟩ := ((F0.out.later b1).set3 (.bool i) (.int .i64 tt) (.int .i64 cc)).three; have bb := below_set3 (g := w.heap.size + 1) (B0.out.trans (b1.mono B0.out.size)) (by omega) (.bool i) (.int .i64 tt) (.int .i64 cc)))
  exact bodyPost_ret (v := .agg #[.bool i, .int .i64 tt, .int .i64 cc]) (by simp [results, Tryz.results138, go_sem, u0, u1, u2]) rfl ⟨rfl, bb⟩
theorem chk_17b (p x q y f : Int) (m : Bool) (a b c d : Nat) (w : World) (hq : y = 34984) :
    Calls Tryz.prog 138 #[.agg #[.int .i64 17, .int .i64 p, .int .i64 x, .int .i64 q, .int .i64 y, .int .i64 f, .bool m, .int .u64 (a : Int), .int .u64 (b : Int), .int .u64 (c : Int), .int .u64 (d : Int)]] w fun e w' => e = .returned (fo2 (achk 17 p x q y f m)) ∧ Below w.heap.size w w' := by
  have e0 : achk 17 p x q y f m = if true = true then none else some 5 := by simp [achk, hq]
  rw [e0]
  clear e0
  have F0 := h_ (AB.at1 w (.cells #[.int .i64 17, .int .i64 p, .int .i64 x, .int .i64 q, .int .i64 y, .int .i64 f, .bool m, .int .u64 (a : Int), .int .u64 (b : Int), .int .u64 (c : Int), .int .u64 (d : Int)] 61) 44 [.bool false, .int .i64 0, .int .i64 0])
  have B0 := h_ (below2 w (.cells #[.int .i64 17, .int .i64 p, .int .i64 x, .int .i64 q, .int .i64 y, .int .i64 f, .bool m, .int .u64 (a : Int), .int .u64 (b : Int), .int .u64 (c : Int), .int .u64 (d : Int)] 61) (.cells #[.bool false, .int .i64 0, .int .i64 0] 44))
  subst hq
  have qu := fun w => unless_any (true) 5 w
  obtain ⟨i, tt, cc, ho, -⟩ := fo2_form (if true = true then none else some 5)
  rw [ho] at qu ⊢
  have qu := h_ qu
  clear ho
  go_enter Tryz.func138, Tryz.ntmps138
  go_wp2_with (first | (go_at_call 157; refine (qu.out _).mono ?_; rintro e w1 ⟨rfl, b1⟩; obtain ⟨s0, s1, s2, s3, s4, s5⟩ := (F0.out.later b1).three; obtain ⟨u0, u1, u2, -⟩ := ((F0.out.later b1).set3 (.bool i) (.int .i64 tt) (.int .i64 cc)).three; have bb := below_set3 (g := w.heap.size + 1) (B0.out.trans (b1.mono B0.out.size)) (by omega) (.bool i) (.int .i64 tt) (.int .i64 cc)))
  exact bodyPost_ret (v := .agg #[.bool i, .int .i64 tt, .int .i64 cc]) (by simp [results, Tryz.results138, go_sem, u0, u1, u2]) rfl ⟨rfl, bb⟩
theorem chk_17c (p x q y f : Int) (m : Bool) (a b c d : Nat) (w : World) (hq : ¬ y = 33024) (hr : ¬ y = 34984) :
    Calls Tryz.prog 138 #[.agg #[.int .i64 17, .int .i64 p, .int .i64 x, .int .i64 q, .int .i64 y, .int .i64 f, .bool m, .int .u64 (a : Int), .int .u64 (b : Int), .int .u64 (c : Int), .int .u64 (d : Int)]] w fun e w' => e = .returned (fo2 (achk 17 p x q y f m)) ∧ Below w.heap.size w w' := by
  have e0 : achk 17 p x q y f m = if false = true then none else some 5 := by simp [achk, hq, hr]
  rw [e0]
  clear e0
  have F0 := h_ (AB.at1 w (.cells #[.int .i64 17, .int .i64 p, .int .i64 x, .int .i64 q, .int .i64 y, .int .i64 f, .bool m, .int .u64 (a : Int), .int .u64 (b : Int), .int .u64 (c : Int), .int .u64 (d : Int)] 61) 44 [.bool false, .int .i64 0, .int .i64 0])
  have B0 := h_ (below2 w (.cells #[.int .i64 17, .int .i64 p, .int .i64 x, .int .i64 q, .int .i64 y, .int .i64 f, .bool m, .int .u64 (a : Int), .int .u64 (b : Int), .int .u64 (c : Int), .int .u64 (d : Int)] 61) (.cells #[.bool false, .int .i64 0, .int .i64 0] 44))
  have g1 : (y == 33024) = false := by simpa using hq
  have g2 : (y == 34984) = false := by simpa using hr
  have qu := fun w => unless_any (false) 5 w
  obtain ⟨i, tt, cc, ho, -⟩ := fo2_form (if false = true then none else some 5)
  rw [ho] at qu ⊢
  have qu := h_ qu
  clear ho
  go_enter Tryz.func138, Tryz.ntmps138
  go_wp2_with (first | (go_at_call 157; refine (qu.out _).mono ?_; rintro e w1 ⟨rfl, b1⟩; obtain ⟨s0, s1, s2, s3, s4, s5⟩ := (F0.out.later b1).three; obtain ⟨u0, u1, u2, -⟩ := ((F0.out.later b1).set3 (.bool i) (.int .i64 tt) (.int .i64 cc)).three; have bb := below_set3 (g := w.heap.size + 1) (B0.out.trans (b1.mono B0.out.size)) (by omega) (.bool i) (.int .i64 tt) (.int .i64 cc)))
  exact bodyPost_ret (v := .agg #[.bool i, .int .i64 tt, .int .i64 cc]) (by simp [results, Tryz.results138, go_sem, u0, u1, u2]) rfl ⟨rfl, bb⟩
theorem chk_18 (p x q y f : Int) (m : Bool) (a b c d : Nat) (w : World) :
    Calls Tryz.prog 138 #[.agg #[.int .i64 18, .int .i64 p, .int .i64 x, .int .i64 q, .int .i64 y, .int .i64 f, .bool m, .int .u64 (a : Int), .int .u64 (b : Int), .int .u64 (c : Int), .int .u64 (d : Int)]] w fun e w' => e = .returned (fo2 (achk 18 p x q y f m)) ∧ Below w.heap.size w w' := by
  have e0 : fo2 (achk 18 p x q y f m) = .agg #[.bool false, .int .i64 0, .int .i64 0] := rfl
  rw [e0]
  have B0 := h_ (below2 w (.cells #[.int .i64 18, .int .i64 p, .int .i64 x, .int .i64 q, .int .i64 y, .int .i64 f, .bool m, .int .u64 (a : Int), .int .u64 (b : Int), .int .u64 (c : Int), .int .u64 (d : Int)] 61) (.cells #[.bool false, .int .i64 0, .int .i64 0] 44))
  go_enter Tryz.func138, Tryz.ntmps138
  go_wp2_with fail
  exact bodyPost_ret (v := .agg #[.bool false, .int .i64 0, .int .i64 0]) (by simp [results, Tryz.results138, go_sem]) rfl ⟨rfl, by first | exact B0.out | go_grown⟩
theorem chk_25a (p x q y f : Int) (m : Bool) (a b c d : Nat) (w : World) (hg : setsB f = false) :
    Calls Tryz.prog 138 #[.agg #[.int .i64 25, .int .i64 p, .int .i64 x, .int .i64 q, .int .i64 y, .int .i64 f, .bool m, .int .u64 (a : Int), .int .u64 (b : Int), .int .u64 (c : Int), .int .u64 (d : Int)]] w fun e w' => e = .returned (fo2 (achk 25 p x q y f m)) ∧ Below w.heap.size w w' := by
  have e0 : achk 25 p x q y f m = some 13 := by simp [achk, hg]
  rw [e0]
  clear e0
  have F0 := h_ (AB.at1 w (.cells #[.int .i64 25, .int .i64 p, .int .i64 x, .int .i64 q, .int .i64 y, .int .i64 f, .bool m, .int .u64 (a : Int), .int .u64 (b : Int), .int .u64 (c : Int), .int .u64 (d : Int)] 61) 44 [.bool false, .int .i64 0, .int .i64 0])
  have B0 := h_ (below2 w (.cells #[.int .i64 25, .int .i64 p, .int .i64 x, .int .i64 q, .int .i64 y, .int .i64 f, .bool m, .int .u64 (a : Int), .int .u64 (b : Int), .int .u64 (c : Int), .int .u64 (d : Int)] 61) (.cells #[.bool false, .int .i64 0, .int .i64 0] 44))
  have qs := fun w => asets_any f w
  rw [hg] at qs
  have qs := h_ qs
  have qr := h_ (fun k w => refuse2_any k w)
  unfold fv at qr
  have e1 : fo2 (some 13) = .agg #[.bool true, .int .i64 2, .int .i64 13] := rfl
  rw [e1]
  clear e1
  go_enter Tryz.func138, Tryz.ntmps138
  go_wp2_with (first | (go_at_call 145; refine (qr.out _ _).mono ?_; rintro e w1 ⟨rfl, b1⟩; obtain ⟨s0, s1, s2, s3, s4, s5⟩ := (F0.out.later b1).three; obtain ⟨u0, u1, u2, -⟩ := ((F0.out.later b1).set3 (.bool true) (.int .i64 2) (.int .i64 13)).three; have bb := below_set3 (g := w.heap.size + 1) (B0.out.trans (b1.mono B0.out.size)) (by omega) (.bool true) (.int .i64 2) (.int .i64 13)) | (go_at_call 159; refine (qs.out _).mono ?_; rintro e w' ⟨rfl, rfl⟩))
  exact bodyPost_ret (v := .agg #[.bool true, .int .i64 2, .int .i64 13]) (by simp [results, Tryz.results138, go_sem, u0, u1, u2]) rfl ⟨rfl, bb⟩
theorem chk_25b (p x q y f : Int) (m : Bool) (a b c d : Nat) (w : World) (hg : setsB f = true) :
    Calls Tryz.prog 138 #[.agg #[.int .i64 25, .int .i64 p, .int .i64 x, .int .i64 q, .int .i64 y, .int .i64 f, .bool m, .int .u64 (a : Int), .int .u64 (b : Int), .int .u64 (c : Int), .int .u64 (d : Int)]] w fun e w' => e = .returned (fo2 (achk 25 p x q y f m)) ∧ Below w.heap.size w w' := by
  have e0 : achk 25 p x q y f m = if (!m) = true then none else some 15 := by cases m <;> simp [achk, hg]
  rw [e0]
  clear e0
  have F0 := h_ (AB.at1 w (.cells #[.int .i64 25, .int .i64 p, .int .i64 x, .int .i64 q, .int .i64 y, .int .i64 f, .bool m, .int .u64 (a : Int), .int .u64 (b : Int), .int .u64 (c : Int), .int .u64 (d : Int)] 61) 44 [.bool false, .int .i64 0, .int .i64 0])
  have B0 := h_ (below2 w (.cells #[.int .i64 25, .int .i64 p, .int .i64 x, .int .i64 q, .int .i64 y, .int .i64 f, .bool m, .int .u64 (a : Int), .int .u64 (b : Int), .int .u64 (c : Int), .int .u64 (d : Int)] 61) (.cells #[.bool false, .int .i64 0, .int .i64 0] 44))
  have qs := fun w => asets_any f w
  rw [hg] at qs
  have qs := h_ qs
  have qu := fun w => unless_any (!m) 15 w
  obtain ⟨i, tt, cc, ho, -⟩ := fo2_form (if (!m) = true then none else some 15)
  rw [ho] at qu ⊢
  have qu := h_ qu
  clear ho
  go_enter Tryz.func138, Tryz.ntmps138
  go_wp2_with (first | (go_at_call 157; refine (qu.out _).mono ?_; rintro e w1 ⟨rfl, b1⟩; obtain ⟨s0, s1, s2, s3, s4, s5⟩ := (F0.out.later b1).three; obtain ⟨u0, u1, u2, -⟩ := ((F0.out.later b1).set3 (.bool i) (.int .i64 tt) (.int .i64 cc)).three; have bb := below_set3 (g := w.heap.size + 1) (B0.out.trans (b1.mono B0.out.size)) (by omega) (.bool i) (.int .i64 tt) (.int .i64 cc)) | (go_at_call 159; refine (qs.out _).mono ?_; rintro e w' ⟨rfl, rfl⟩))
  exact bodyPost_ret (v := .agg #[.bool i, .int .i64 tt, .int .i64 cc]) (by simp [results, Tryz.results138, go_sem, u0, u1, u2]) rfl ⟨rfl, bb⟩
theorem chk_z (k p x q y f : Int) (m : Bool) (a b c d : Nat) (w : World) (h0 : k ≠ 0) (h22 : k ≠ 22) (h17 : k ≠ 17) (h18 : k ≠ 18) (h25 : k ≠ 25) :
    Calls Tryz.prog 138 #[.agg #[.int .i64 k, .int .i64 p, .int .i64 x, .int .i64 q, .int .i64 y, .int .i64 f, .bool m, .int .u64 (a : Int), .int .u64 (b : Int), .int .u64 (c : Int), .int .u64 (d : Int)]] w fun e w' => e = .returned (fo2 (achk k p x q y f m)) ∧ Below w.heap.size w w' := by
  have e0 : achk k p x q y f m = some 0 := by simp [achk, h0, h22, h17, h18, h25]
  rw [e0]
  clear e0
  have F0 := h_ (AB.at1 w (.cells #[.int .i64 k, .int .i64 p, .int .i64 x, .int .i64 q, .int .i64 y, .int .i64 f, .bool m, .int .u64 (a : Int), .int .u64 (b : Int), .int .u64 (c : Int), .int .u64 (d : Int)] 61) 44 [.bool false, .int .i64 0, .int .i64 0])
  have B0 := h_ (below2 w (.cells #[.int .i64 k, .int .i64 p, .int .i64 x, .int .i64 q, .int .i64 y, .int .i64 f, .bool m, .int .u64 (a : Int), .int .u64 (b : Int), .int .u64 (c : Int), .int .u64 (d : Int)] 61) (.cells #[.bool false, .int .i64 0, .int .i64 0] 44))
  have qr := h_ (fun k w => refuse2_any k w)
  unfold fv at qr
  have e1 : fo2 (some 0) = .agg #[.bool true, .int .i64 2, .int .i64 0] := rfl
  rw [e1]
  clear e1
  go_enter Tryz.func138, Tryz.ntmps138
  go_wp2_with (first | (go_at_call 145; refine (qr.out _ _).mono ?_; rintro e w1 ⟨rfl, b1⟩; obtain ⟨s0, s1, s2, s3, s4, s5⟩ := (F0.out.later b1).three; obtain ⟨u0, u1, u2, -⟩ := ((F0.out.later b1).set3 (.bool true) (.int .i64 2) (.int .i64 0)).three; have bb := below_set3 (g := w.heap.size + 1) (B0.out.trans (b1.mono B0.out.size)) (by omega) (.bool true) (.int .i64 2) (.int .i64 0)))
  exact bodyPost_ret (v := .agg #[.bool true, .int .i64 2, .int .i64 0]) (by simp [results, Tryz.results138, go_sem, u0, u1, u2]) rfl ⟨rfl, bb⟩
end Go.Proofs.YthhijfphfcmniaaGreat
