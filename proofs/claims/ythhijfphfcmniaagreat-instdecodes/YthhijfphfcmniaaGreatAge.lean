import Derived.Test.YthhijfphfcmniaaGreatAfe
import Derived.Deep.RegionHeld3
import Derived.Deep.RegionWith
import Derived.Deep.MidRow
import Derived.Deep.Cut
set_option maxRecDepth 100000
set_option maxHeartbeats 8000000
set_option linter.unusedVariables false
set_option linter.unusedSimpArgs false
namespace Go.Proofs.YthhijfphfcmniaaGreat
open Go Go.RowKit
theorem rar_0a (p x q y f : Int) (m : Bool) (a b c d : Nat) (w : World) (hg : goB p = false) :
    Calls Tryz.prog 110 #[.agg #[.int .i64 0, .int .i64 p, .int .i64 x, .int .i64 q, .int .i64 y, .int .i64 f, .bool m, .int .u64 (a : Int), .int .u64 (b : Int), .int .u64 (c : Int), .int .u64 (d : Int)]] w fun e w' => e = .returned (.bool (false)) ∧ Below w.heap.size w w' := by
  have A0 := h_ (AB.at0 w 61 [.int .i64 0, .int .i64 p, .int .i64 x, .int .i64 q, .int .i64 y, .int .i64 f, .bool m, .int .u64 (a : Int), .int .u64 (b : Int), .int .u64 (c : Int), .int .u64 (d : Int)])
  have B0 := h_ (below1 w (.cells #[.int .i64 0, .int .i64 p, .int .i64 x, .int .i64 q, .int .i64 y, .int .i64 f, .bool m, .int .u64 (a : Int), .int .u64 (b : Int), .int .u64 (c : Int), .int .u64 (d : Int)] 61))
  have qg := fun w => rgoes_any p w
  rw [hg] at qg
  have qg := h_ qg
  go_enter Tryz.func110, Tryz.ntmps110
  go_wp2_with (go_at_call 130; refine (qg.out _).mono ?_; rintro e w' ⟨rfl, rfl⟩)
  go_ret
  exact ⟨rfl, B0.out⟩
theorem rar_0b (p x q y f : Int) (m : Bool) (a b c d : Nat) (w : World) (hg : goB p = true) (hm : tkB p x = false) :
    Calls Tryz.prog 110 #[.agg #[.int .i64 0, .int .i64 p, .int .i64 x, .int .i64 q, .int .i64 y, .int .i64 f, .bool m, .int .u64 (a : Int), .int .u64 (b : Int), .int .u64 (c : Int), .int .u64 (d : Int)]] w fun e w' => e = .returned (.bool (false)) ∧ Below w.heap.size w w' := by
  have A0 := h_ (AB.at0 w 61 [.int .i64 0, .int .i64 p, .int .i64 x, .int .i64 q, .int .i64 y, .int .i64 f, .bool m, .int .u64 (a : Int), .int .u64 (b : Int), .int .u64 (c : Int), .int .u64 (d : Int)])
  have B0 := h_ (below1 w (.cells #[.int .i64 0, .int .i64 p, .int .i64 x, .int .i64 q, .int .i64 y, .int .i64 f, .bool m, .int .u64 (a : Int), .int .u64 (b : Int), .int .u64 (c : Int), .int .u64 (d : Int)] 61))
  have qg := fun w => rgoes_any p w
  rw [hg] at qg
  have qg := h_ qg
  have qm := fun w => rmost_any 0 p x q y f m a b c d w
  rw [hm] at qm
  unfold av at qm
  have qm := h_ qm
  go_enter Tryz.func110, Tryz.ntmps110
  go_wp2_with (first | (go_at_call 130; refine (qg.out _).mono ?_; rintro e w' ⟨rfl, rfl⟩) | (go_at_call 131; refine (qm.out _).mono ?_; rintro e w1 ⟨rfl, b1⟩; obtain ⟨yb10, yb11, yb12, yb13, yb14, yb15, yb16, yb17, yb18, yb19, yb110, -⟩ := (A0.out.later b1).eleven))
  go_ret
  exact ⟨rfl, B0.out.trans (b1.mono B0.out.size)⟩
theorem rar_0c (p x q y f : Int) (m : Bool) (a b c d : Nat) (w : World) (hg : goB p = true) (hm : tkB p x = true) :
    Calls Tryz.prog 110 #[.agg #[.int .i64 0, .int .i64 p, .int .i64 x, .int .i64 q, .int .i64 y, .int .i64 f, .bool m, .int .u64 (a : Int), .int .u64 (b : Int), .int .u64 (c : Int), .int .u64 (d : Int)]] w fun e w' => e = .returned (.bool (sameB 0 p x q y f m a b c d 0 p x 0 0 0 false 0 0 0 0)) ∧ Below w.heap.size w w' := by
  have A0 := h_ (AB.at0 w 61 [.int .i64 0, .int .i64 p, .int .i64 x, .int .i64 q, .int .i64 y, .int .i64 f, .bool m, .int .u64 (a : Int), .int .u64 (b : Int), .int .u64 (c : Int), .int .u64 (d : Int)])
  have B0 := h_ (below1 w (.cells #[.int .i64 0, .int .i64 p, .int .i64 x, .int .i64 q, .int .i64 y, .int .i64 f, .bool m, .int .u64 (a : Int), .int .u64 (b : Int), .int .u64 (c : Int), .int .u64 (d : Int)] 61))
  have qg := fun w => rgoes_any p w
  rw [hg] at qg
  have qg := h_ qg
  have qm := fun w => rmost_any 0 p x q y f m a b c d w
  rw [hm] at qm
  unfold av at qm
  have qm := h_ qm
  have qs : Hid (∀ w, Calls Tryz.prog 112 #[.agg #[.int .i64 0, .int .i64 p, .int .i64 x, .int .i64 q, .int .i64 y, .int .i64 f, .bool m, .int .u64 (a : Int), .int .u64 (b : Int), .int .u64 (c : Int), .int .u64 (d : Int)], .agg #[.int .i64 0, .int .i64 p, .int .i64 x, .int .i64 0, .int .i64 0, .int .i64 0, .bool false, .int .u64 0, .int .u64 0, .int .u64 0, .int .u64 0]] w fun e w' => e = .returned (.bool (sameB 0 p x q y f m a b c d 0 p x 0 0 0 false 0 0 0 0)) ∧ Below w.heap.size w w') := h_ (fun w => rasame_any 0 p x q y f m a b c d 0 p x 0 0 0 false 0 0 0 0 w)
  generalize sameB 0 p x q y f m a b c d 0 p x 0 0 0 false 0 0 0 0 = z at *
  go_enter Tryz.func110, Tryz.ntmps110
  go_wp2_with (first | (go_at_call 130; refine (qg.out _).mono ?_; rintro e w' ⟨rfl, rfl⟩) | (go_at_call 131; refine (qm.out _).mono ?_; rintro e w1 ⟨rfl, b1⟩; obtain ⟨yb10, yb11, yb12, yb13, yb14, yb15, yb16, yb17, yb18, yb19, yb110, -⟩ := (A0.out.later b1).eleven) | (go_at_call 112; refine (qs.out _).mono ?_; rintro e w9 ⟨rfl, b9⟩))
  go_ret
  exact ⟨rfl, B0.out.trans ((b1.trans (b9.mono b1.size)).mono B0.out.size)⟩
theorem rar_22a (p x q y f : Int) (m : Bool) (a b c d : Nat) (w : World) (h : ¬ 0 ≤ q) :
    Calls Tryz.prog 110 #[.agg #[.int .i64 22, .int .i64 p, .int .i64 x, .int .i64 q, .int .i64 y, .int .i64 f, .bool m, .int .u64 (a : Int), .int .u64 (b : Int), .int .u64 (c : Int), .int .u64 (d : Int)]] w fun e w' => e = .returned (.bool (false)) ∧ Below w.heap.size w w' := by
  have A0 := h_ (AB.at0 w 61 [.int .i64 22, .int .i64 p, .int .i64 x, .int .i64 q, .int .i64 y, .int .i64 f, .bool m, .int .u64 (a : Int), .int .u64 (b : Int), .int .u64 (c : Int), .int .u64 (d : Int)])
  have B0 := h_ (below1 w (.cells #[.int .i64 22, .int .i64 p, .int .i64 x, .int .i64 q, .int .i64 y, .int .i64 f, .bool m, .int .u64 (a : Int), .int .u64 (b : Int), .int .u64 (c : Int), .int .u64 (d : Int)] 61))
  go_enter Tryz.func110, Tryz.ntmps110
  go_wp2_with fail
  go_ret
  exact ⟨rfl, B0.out⟩
theorem rar_22b (p x q y f : Int) (m : Bool) (a b c d : Nat) (w : World) (h : 0 ≤ q) (h2 : ¬ q ≤ 4294967040) :
    Calls Tryz.prog 110 #[.agg #[.int .i64 22, .int .i64 p, .int .i64 x, .int .i64 q, .int .i64 y, .int .i64 f, .bool m, .int .u64 (a : Int), .int .u64 (b : Int), .int .u64 (c : Int), .int .u64 (d : Int)]] w fun e w' => e = .returned (.bool (false)) ∧ Below w.heap.size w w' := by
  have A0 := h_ (AB.at0 w 61 [.int .i64 22, .int .i64 p, .int .i64 x, .int .i64 q, .int .i64 y, .int .i64 f, .bool m, .int .u64 (a : Int), .int .u64 (b : Int), .int .u64 (c : Int), .int .u64 (d : Int)])
  have B0 := h_ (below1 w (.cells #[.int .i64 22, .int .i64 p, .int .i64 x, .int .i64 q, .int .i64 y, .int .i64 f, .bool m, .int .u64 (a : Int), .int .u64 (b : Int), .int .u64 (c : Int), .int .u64 (d : Int)] 61))
  go_enter Tryz.func110, Tryz.ntmps110
  go_wp2_with fail
  go_ret
  exact ⟨rfl, B0.out⟩
theorem rar_22c (p x q y f : Int) (m : Bool) (a b c d : Nat) (w : World) (h : 0 ≤ q) (h2 : q ≤ 4294967040) :
    Calls Tryz.prog 110 #[.agg #[.int .i64 22, .int .i64 p, .int .i64 x, .int .i64 q, .int .i64 y, .int .i64 f, .bool m, .int .u64 (a : Int), .int .u64 (b : Int), .int .u64 (c : Int), .int .u64 (d : Int)]] w fun e w' => e = .returned (.bool (sameB 22 p x q y f m a b c d 22 0 0 q 0 0 false 0 0 0 0)) ∧ Below w.heap.size w w' := by
  have A0 := h_ (AB.at0 w 61 [.int .i64 22, .int .i64 p, .int .i64 x, .int .i64 q, .int .i64 y, .int .i64 f, .bool m, .int .u64 (a : Int), .int .u64 (b : Int), .int .u64 (c : Int), .int .u64 (d : Int)])
  have B0 := h_ (below1 w (.cells #[.int .i64 22, .int .i64 p, .int .i64 x, .int .i64 q, .int .i64 y, .int .i64 f, .bool m, .int .u64 (a : Int), .int .u64 (b : Int), .int .u64 (c : Int), .int .u64 (d : Int)] 61))
  have qs : Hid (∀ w, Calls Tryz.prog 112 #[.agg #[.int .i64 22, .int .i64 p, .int .i64 x, .int .i64 q, .int .i64 y, .int .i64 f, .bool m, .int .u64 (a : Int), .int .u64 (b : Int), .int .u64 (c : Int), .int .u64 (d : Int)], .agg #[.int .i64 22, .int .i64 0, .int .i64 0, .int .i64 q, .int .i64 0, .int .i64 0, .bool false, .int .u64 0, .int .u64 0, .int .u64 0, .int .u64 0]] w fun e w' => e = .returned (.bool (sameB 22 p x q y f m a b c d 22 0 0 q 0 0 false 0 0 0 0)) ∧ Below w.heap.size w w') := h_ (fun w => rasame_any 22 p x q y f m a b c d 22 0 0 q 0 0 false 0 0 0 0 w)
  generalize sameB 22 p x q y f m a b c d 22 0 0 q 0 0 false 0 0 0 0 = z at *
  go_enter Tryz.func110, Tryz.ntmps110
  go_wp2_with (first  | (go_at_call 112; refine (qs.out _).mono ?_; rintro e w9 ⟨rfl, b9⟩))
  go_ret
  exact ⟨rfl, B0.out.trans (b9.mono B0.out.size)⟩
theorem rar_17a (p x q y f : Int) (m : Bool) (a b c d : Nat) (w : World) (h : y = 33024) :
    Calls Tryz.prog 110 #[.agg #[.int .i64 17, .int .i64 p, .int .i64 x, .int .i64 q, .int .i64 y, .int .i64 f, .bool m, .int .u64 (a : Int), .int .u64 (b : Int), .int .u64 (c : Int), .int .u64 (d : Int)]] w fun e w' => e = .returned (.bool (sameB 17 p x q y f m a b c d 17 0 0 0 y 0 false 0 0 0 0)) ∧ Below w.heap.size w w' := by
  have A0 := h_ (AB.at0 w 61 [.int .i64 17, .int .i64 p, .int .i64 x, .int .i64 q, .int .i64 y, .int .i64 f, .bool m, .int .u64 (a : Int), .int .u64 (b : Int), .int .u64 (c : Int), .int .u64 (d : Int)])
  have B0 := h_ (below1 w (.cells #[.int .i64 17, .int .i64 p, .int .i64 x, .int .i64 q, .int .i64 y, .int .i64 f, .bool m, .int .u64 (a : Int), .int .u64 (b : Int), .int .u64 (c : Int), .int .u64 (d : Int)] 61))
  subst h
  have qs : Hid (∀ w, Calls Tryz.prog 112 #[.agg #[.int .i64 17, .int .i64 p, .int .i64 x, .int .i64 q, .int .i64 33024, .int .i64 f, .bool m, .int .u64 (a : Int), .int .u64 (b : Int), .int .u64 (c : Int), .int .u64 (d : Int)], .agg #[.int .i64 17, .int .i64 0, .int .i64 0, .int .i64 0, .int .i64 33024, .int .i64 0, .bool false, .int .u64 0, .int .u64 0, .int .u64 0, .int .u64 0]] w fun e w' => e = .returned (.bool (sameB 17 p x q 33024 f m a b c d 17 0 0 0 33024 0 false 0 0 0 0)) ∧ Below w.heap.size w w') := h_ (fun w => rasame_any 17 p x q 33024 f m a b c d 17 0 0 0 33024 0 false 0 0 0 0 w)
  generalize sameB 17 p x q 33024 f m a b c d 17 0 0 0 33024 0 false 0 0 0 0 = z at *
  go_enter Tryz.func110, Tryz.ntmps110
  go_wp2_with (first  | (go_at_call 112; refine (qs.out _).mono ?_; rintro e w9 ⟨rfl, b9⟩))
  go_ret
  exact ⟨rfl, B0.out.trans (b9.mono B0.out.size)⟩
theorem rar_17b (p x q y f : Int) (m : Bool) (a b c d : Nat) (w : World) (h : y = 34984) :
    Calls Tryz.prog 110 #[.agg #[.int .i64 17, .int .i64 p, .int .i64 x, .int .i64 q, .int .i64 y, .int .i64 f, .bool m, .int .u64 (a : Int), .int .u64 (b : Int), .int .u64 (c : Int), .int .u64 (d : Int)]] w fun e w' => e = .returned (.bool (sameB 17 p x q y f m a b c d 17 0 0 0 y 0 false 0 0 0 0)) ∧ Below w.heap.size w w' := by
  have A0 := h_ (AB.at0 w 61 [.int .i64 17, .int .i64 p, .int .i64 x, .int .i64 q, .int .i64 y, .int .i64 f, .bool m, .int .u64 (a : Int), .int .u64 (b : Int), .int .u64 (c : Int), .int .u64 (d : Int)])
  have B0 := h_ (below1 w (.cells #[.int .i64 17, .int .i64 p, .int .i64 x, .int .i64 q, .int .i64 y, .int .i64 f, .bool m, .int .u64 (a : Int), .int .u64 (b : Int), .int .u64 (c : Int), .int .u64 (d : Int)] 61))
  subst h
  have qs : Hid (∀ w, Calls Tryz.prog 112 #[.agg #[.int .i64 17, .int .i64 p, .int .i64 x, .int .i64 q, .int .i64 34984, .int .i64 f, .bool m, .int .u64 (a : Int), .int .u64 (b : Int), .int .u64 (c : Int), .int .u64 (d : Int)], .agg #[.int .i64 17, .int .i64 0, .int .i64 0, .int .i64 0, .int .i64 34984, .int .i64 0, .bool false, .int .u64 0, .int .u64 0, .int .u64 0, .int .u64 0]] w fun e w' => e = .returned (.bool (sameB 17 p x q 34984 f m a b c d 17 0 0 0 34984 0 false 0 0 0 0)) ∧ Below w.heap.size w w') := h_ (fun w => rasame_any 17 p x q 34984 f m a b c d 17 0 0 0 34984 0 false 0 0 0 0 w)
  generalize sameB 17 p x q 34984 f m a b c d 17 0 0 0 34984 0 false 0 0 0 0 = z at *
  go_enter Tryz.func110, Tryz.ntmps110
  go_wp2_with (first  | (go_at_call 112; refine (qs.out _).mono ?_; rintro e w9 ⟨rfl, b9⟩))
  go_ret
  exact ⟨rfl, B0.out.trans (b9.mono B0.out.size)⟩
theorem rar_17c (p x q y f : Int) (m : Bool) (a b c d : Nat) (w : World) (h : ¬ y = 33024) (h2 : ¬ y = 34984) :
    Calls Tryz.prog 110 #[.agg #[.int .i64 17, .int .i64 p, .int .i64 x, .int .i64 q, .int .i64 y, .int .i64 f, .bool m, .int .u64 (a : Int), .int .u64 (b : Int), .int .u64 (c : Int), .int .u64 (d : Int)]] w fun e w' => e = .returned (.bool (false)) ∧ Below w.heap.size w w' := by
  have A0 := h_ (AB.at0 w 61 [.int .i64 17, .int .i64 p, .int .i64 x, .int .i64 q, .int .i64 y, .int .i64 f, .bool m, .int .u64 (a : Int), .int .u64 (b : Int), .int .u64 (c : Int), .int .u64 (d : Int)])
  have B0 := h_ (below1 w (.cells #[.int .i64 17, .int .i64 p, .int .i64 x, .int .i64 q, .int .i64 y, .int .i64 f, .bool m, .int .u64 (a : Int), .int .u64 (b : Int), .int .u64 (c : Int), .int .u64 (d : Int)] 61))
  have g1 : (y == 33024) = false := by simpa using h
  have g2 : (y == 34984) = false := by simpa using h2
  go_enter Tryz.func110, Tryz.ntmps110
  go_wp2_with fail
  go_ret
  exact ⟨rfl, B0.out⟩
theorem rar_18 (p x q y f : Int) (m : Bool) (a b c d : Nat) (w : World) :
    Calls Tryz.prog 110 #[.agg #[.int .i64 18, .int .i64 p, .int .i64 x, .int .i64 q, .int .i64 y, .int .i64 f, .bool m, .int .u64 (a : Int), .int .u64 (b : Int), .int .u64 (c : Int), .int .u64 (d : Int)]] w fun e w' => e = .returned (.bool (sameB 18 p x q y f m a b c d 18 0 0 0 0 0 false 0 0 0 0)) ∧ Below w.heap.size w w' := by
  have A0 := h_ (AB.at0 w 61 [.int .i64 18, .int .i64 p, .int .i64 x, .int .i64 q, .int .i64 y, .int .i64 f, .bool m, .int .u64 (a : Int), .int .u64 (b : Int), .int .u64 (c : Int), .int .u64 (d : Int)])
  have B0 := h_ (below1 w (.cells #[.int .i64 18, .int .i64 p, .int .i64 x, .int .i64 q, .int .i64 y, .int .i64 f, .bool m, .int .u64 (a : Int), .int .u64 (b : Int), .int .u64 (c : Int), .int .u64 (d : Int)] 61))
  have qs : Hid (∀ w, Calls Tryz.prog 112 #[.agg #[.int .i64 18, .int .i64 p, .int .i64 x, .int .i64 q, .int .i64 y, .int .i64 f, .bool m, .int .u64 (a : Int), .int .u64 (b : Int), .int .u64 (c : Int), .int .u64 (d : Int)], .agg #[.int .i64 18, .int .i64 0, .int .i64 0, .int .i64 0, .int .i64 0, .int .i64 0, .bool false, .int .u64 0, .int .u64 0, .int .u64 0, .int .u64 0]] w fun e w' => e = .returned (.bool (sameB 18 p x q y f m a b c d 18 0 0 0 0 0 false 0 0 0 0)) ∧ Below w.heap.size w w') := h_ (fun w => rasame_any 18 p x q y f m a b c d 18 0 0 0 0 0 false 0 0 0 0 w)
  generalize sameB 18 p x q y f m a b c d 18 0 0 0 0 0 false 0 0 0 0 = z at *
  go_enter Tryz.func110, Tryz.ntmps110
  go_wp2_with (first  | (go_at_call 112; refine (qs.out _).mono ?_; rintro e w9 ⟨rfl, b9⟩))
  go_ret
  exact ⟨rfl, B0.out.trans (b9.mono B0.out.size)⟩
theorem rar_25a (p x q y f : Int) (m : Bool) (a b c d : Nat) (w : World) (ha : a < 18446744073709551616) (hb : b < 18446744073709551616) (hc : c < 18446744073709551616) (hd : d < 18446744073709551616) (hr : rgt f m a b c d = false) :
    Calls Tryz.prog 110 #[.agg #[.int .i64 25, .int .i64 p, .int .i64 x, .int .i64 q, .int .i64 y, .int .i64 f, .bool m, .int .u64 (a : Int), .int .u64 (b : Int), .int .u64 (c : Int), .int .u64 (d : Int)]] w fun e w' => e = .returned (.bool (false)) ∧ Below w.heap.size w w' := by
  have A0 := h_ (AB.at0 w 61 [.int .i64 25, .int .i64 p, .int .i64 x, .int .i64 q, .int .i64 y, .int .i64 f, .bool m, .int .u64 (a : Int), .int .u64 (b : Int), .int .u64 (c : Int), .int .u64 (d : Int)])
  have B0 := h_ (below1 w (.cells #[.int .i64 25, .int .i64 p, .int .i64 x, .int .i64 q, .int .i64 y, .int .i64 f, .bool m, .int .u64 (a : Int), .int .u64 (b : Int), .int .u64 (c : Int), .int .u64 (d : Int)] 61))
  have qr := fun w => roright_any f m a b c d w ha hb hc hd
  rw [hr] at qr
  unfold ov at qr
  have qr := h_ qr
  clear ha hb hc hd
  go_enter Tryz.func110, Tryz.ntmps110
  go_wp2_with (go_at_call 132; refine (qr.out _).mono ?_; rintro e w1 ⟨rfl, b1⟩; obtain ⟨yb10, yb11, yb12, yb13, yb14, yb15, yb16, yb17, yb18, yb19, yb110, -⟩ := (A0.out.later b1).eleven)
  go_ret
  exact ⟨rfl, B0.out.trans (b1.mono B0.out.size)⟩
theorem rar_25b (p x q y f : Int) (m : Bool) (a b c d : Nat) (w : World) (ha : a < 18446744073709551616) (hb : b < 18446744073709551616) (hc : c < 18446744073709551616) (hd : d < 18446744073709551616) (hr : rgt f m a b c d = true) (hm : m = true) :
    Calls Tryz.prog 110 #[.agg #[.int .i64 25, .int .i64 p, .int .i64 x, .int .i64 q, .int .i64 y, .int .i64 f, .bool m, .int .u64 (a : Int), .int .u64 (b : Int), .int .u64 (c : Int), .int .u64 (d : Int)]] w fun e w' => e = .returned (.bool (false)) ∧ Below w.heap.size w w' := by
  have A0 := h_ (AB.at0 w 61 [.int .i64 25, .int .i64 p, .int .i64 x, .int .i64 q, .int .i64 y, .int .i64 f, .bool m, .int .u64 (a : Int), .int .u64 (b : Int), .int .u64 (c : Int), .int .u64 (d : Int)])
  have B0 := h_ (below1 w (.cells #[.int .i64 25, .int .i64 p, .int .i64 x, .int .i64 q, .int .i64 y, .int .i64 f, .bool m, .int .u64 (a : Int), .int .u64 (b : Int), .int .u64 (c : Int), .int .u64 (d : Int)] 61))
  have qr := fun w => roright_any f m a b c d w ha hb hc hd
  rw [hr] at qr
  unfold ov at qr
  have qr := h_ qr
  clear ha hb hc hd
  subst hm
  go_enter Tryz.func110, Tryz.ntmps110
  go_wp2_with (go_at_call 132; refine (qr.out _).mono ?_; rintro e w1 ⟨rfl, b1⟩; obtain ⟨yb10, yb11, yb12, yb13, yb14, yb15, yb16, yb17, yb18, yb19, yb110, -⟩ := (A0.out.later b1).eleven)
  go_ret
  exact ⟨rfl, B0.out.trans (b1.mono B0.out.size)⟩
theorem rar_25c (p x q y f : Int) (m : Bool) (a b c d : Nat) (w : World) (ha : a < 18446744073709551616) (hb : b < 18446744073709551616) (hc : c < 18446744073709551616) (hd : d < 18446744073709551616) (hr : rgt f m a b c d = true) (hm : m = false) (hs : setsB f = false) :
    Calls Tryz.prog 110 #[.agg #[.int .i64 25, .int .i64 p, .int .i64 x, .int .i64 q, .int .i64 y, .int .i64 f, .bool m, .int .u64 (a : Int), .int .u64 (b : Int), .int .u64 (c : Int), .int .u64 (d : Int)]] w fun e w' => e = .returned (.bool (false)) ∧ Below w.heap.size w w' := by
  have A0 := h_ (AB.at0 w 61 [.int .i64 25, .int .i64 p, .int .i64 x, .int .i64 q, .int .i64 y, .int .i64 f, .bool m, .int .u64 (a : Int), .int .u64 (b : Int), .int .u64 (c : Int), .int .u64 (d : Int)])
  have B0 := h_ (below1 w (.cells #[.int .i64 25, .int .i64 p, .int .i64 x, .int .i64 q, .int .i64 y, .int .i64 f, .bool m, .int .u64 (a : Int), .int .u64 (b : Int), .int .u64 (c : Int), .int .u64 (d : Int)] 61))
  have qr := fun w => roright_any f m a b c d w ha hb hc hd
  rw [hr] at qr
  unfold ov at qr
  have qr := h_ qr
  clear ha hb hc hd
  have qt := fun w => rasets_any f w
  rw [hs] at qt
  have qt := h_ qt
  subst hm
  go_enter Tryz.func110, Tryz.ntmps110
  go_wp2_with (first | (go_at_call 132; refine (qr.out _).mono ?_; rintro e w1 ⟨rfl, b1⟩; obtain ⟨yb10, yb11, yb12, yb13, yb14, yb15, yb16, yb17, yb18, yb19, yb110, -⟩ := (A0.out.later b1).eleven) | (go_at_call 133; refine (qt.out _).mono ?_; rintro e w' ⟨rfl, rfl⟩))
  go_ret
  exact ⟨rfl, B0.out.trans (b1.mono B0.out.size)⟩
theorem rar_25d (p x q y f : Int) (m : Bool) (a b c d : Nat) (w : World) (ha : a < 18446744073709551616) (hb : b < 18446744073709551616) (hc : c < 18446744073709551616) (hd : d < 18446744073709551616) (hr : rgt f m a b c d = true) (hm : m = false) (hs : setsB f = true) :
    Calls Tryz.prog 110 #[.agg #[.int .i64 25, .int .i64 p, .int .i64 x, .int .i64 q, .int .i64 y, .int .i64 f, .bool m, .int .u64 (a : Int), .int .u64 (b : Int), .int .u64 (c : Int), .int .u64 (d : Int)]] w fun e w' => e = .returned (.bool (sameB 25 p x q y f m a b c d 25 0 0 0 0 f m a b c d)) ∧ Below w.heap.size w w' := by
  have A0 := h_ (AB.at0 w 61 [.int .i64 25, .int .i64 p, .int .i64 x, .int .i64 q, .int .i64 y, .int .i64 f, .bool m, .int .u64 (a : Int), .int .u64 (b : Int), .int .u64 (c : Int), .int .u64 (d : Int)])
  have B0 := h_ (below1 w (.cells #[.int .i64 25, .int .i64 p, .int .i64 x, .int .i64 q, .int .i64 y, .int .i64 f, .bool m, .int .u64 (a : Int), .int .u64 (b : Int), .int .u64 (c : Int), .int .u64 (d : Int)] 61))
  have qr := fun w => roright_any f m a b c d w ha hb hc hd
  rw [hr] at qr
  unfold ov at qr
  have qr := h_ qr
  clear ha hb hc hd
  have qt := fun w => rasets_any f w
  rw [hs] at qt
  have qt := h_ qt
  have qs : Hid (∀ w, Calls Tryz.prog 112 #[.agg #[.int .i64 25, .int .i64 p, .int .i64 x, .int .i64 q, .int .i64 y, .int .i64 f, .bool m, .int .u64 (a : Int), .int .u64 (b : Int), .int .u64 (c : Int), .int .u64 (d : Int)], .agg #[.int .i64 25, .int .i64 0, .int .i64 0, .int .i64 0, .int .i64 0, .int .i64 f, .bool m, .int .u64 (a : Int), .int .u64 (b : Int), .int .u64 (c : Int), .int .u64 (d : Int)]] w fun e w' => e = .returned (.bool (sameB 25 p x q y f m a b c d 25 0 0 0 0 f m a b c d)) ∧ Below w.heap.size w w') := h_ (fun w => rasame_any 25 p x q y f m a b c d 25 0 0 0 0 f m a b c d w)
  generalize sameB 25 p x q y f m a b c d 25 0 0 0 0 f m a b c d = z at *
  subst hm
  go_enter Tryz.func110, Tryz.ntmps110
  go_wp2_with (first | (go_at_call 132; refine (qr.out _).mono ?_; rintro e w1 ⟨rfl, b1⟩; obtain ⟨yb10, yb11, yb12, yb13, yb14, yb15, yb16, yb17, yb18, yb19, yb110, -⟩ := (A0.out.later b1).eleven) | (go_at_call 133; refine (qt.out _).mono ?_; rintro e w' ⟨rfl, rfl⟩) | (go_at_call 112; refine (qs.out _).mono ?_; rintro e w9 ⟨rfl, b9⟩))
  go_ret
  exact ⟨rfl, B0.out.trans ((b1.trans (b9.mono b1.size)).mono B0.out.size)⟩
theorem rar_z (k p x q y f : Int) (m : Bool) (a b c d : Nat) (w : World) (h0 : k ≠ 0) (h22 : k ≠ 22) (h17 : k ≠ 17) (h18 : k ≠ 18) (h25 : k ≠ 25) :
    Calls Tryz.prog 110 #[.agg #[.int .i64 k, .int .i64 p, .int .i64 x, .int .i64 q, .int .i64 y, .int .i64 f, .bool m, .int .u64 (a : Int), .int .u64 (b : Int), .int .u64 (c : Int), .int .u64 (d : Int)]] w fun e w' => e = .returned (.bool (false)) ∧ Below w.heap.size w w' := by
  have A0 := h_ (AB.at0 w 61 [.int .i64 k, .int .i64 p, .int .i64 x, .int .i64 q, .int .i64 y, .int .i64 f, .bool m, .int .u64 (a : Int), .int .u64 (b : Int), .int .u64 (c : Int), .int .u64 (d : Int)])
  have B0 := h_ (below1 w (.cells #[.int .i64 k, .int .i64 p, .int .i64 x, .int .i64 q, .int .i64 y, .int .i64 f, .bool m, .int .u64 (a : Int), .int .u64 (b : Int), .int .u64 (c : Int), .int .u64 (d : Int)] 61))
  go_enter Tryz.func110, Tryz.ntmps110
  go_wp2_with fail
  go_ret
  exact ⟨rfl, B0.out⟩
end Go.Proofs.YthhijfphfcmniaaGreat
