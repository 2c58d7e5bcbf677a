import Derived.Test.YthhijfphfcmniaaGreatAce
import Derived.Test.YthhijfphfcmniaaGreatAde
import Derived.Deep.RegionHeld3
import Derived.Deep.RegionWith
import Derived.Deep.MidRow
import Derived.Deep.Cut
set_option maxRecDepth 100000
set_option maxHeartbeats 8000000
set_option linter.unusedVariables false
set_option linter.unusedSimpArgs false
namespace Go.Proofs.YthhijfphfcmniaaGreat
open Go Go.RowKit
theorem aright_of (k p x q y f : Int) (m : Bool) (a b c d : Nat) (O : Array Value) (E RB : Bool) (w : World)
    (heq : ∀ w, (Op.equalIn 10000 61 (.agg #[.int .i64 k, .int .i64 p, .int .i64 x, .int .i64 q, .int .i64 y, .int .i64 f, .bool m, .int .u64 (a : Int), .int .u64 (b : Int), .int .u64 (c : Int), .int .u64 (d : Int)]) (.agg O)).run Tryz.prog w = .ok E w)
    (qo : ∀ w, Calls Tryz.prog 137 #[.agg #[.int .i64 k, .int .i64 p, .int .i64 x, .int .i64 q, .int .i64 y, .int .i64 f, .bool m, .int .u64 (a : Int), .int .u64 (b : Int), .int .u64 (c : Int), .int .u64 (d : Int)]] w fun e w' => e = .returned (.agg O) ∧ Below w.heap.size w w')
    (qc : ∀ w, Calls Tryz.prog 138 #[.agg #[.int .i64 k, .int .i64 p, .int .i64 x, .int .i64 q, .int .i64 y, .int .i64 f, .bool m, .int .u64 (a : Int), .int .u64 (b : Int), .int .u64 (c : Int), .int .u64 (d : Int)]] w fun e w' => e = .returned (fo2 (achk k p x q y f m)) ∧ Below w.heap.size w w')
    (qr : ∀ w, Calls Tryz.prog 139 #[ov f m a b c d] w fun e w' => e = .returned (.bool RB) ∧ Below w.heap.size w w') :
    Calls Tryz.prog 115 #[.agg #[.int .i64 k, .int .i64 p, .int .i64 x, .int .i64 q, .int .i64 y, .int .i64 f, .bool m, .int .u64 (a : Int), .int .u64 (b : Int), .int .u64 (c : Int), .int .u64 (d : Int)]] w fun e w' => e = .returned (.bool (E && (!(achk k p x q y f m).isSome && (decide (k ≠ 25) || RB)))) ∧ Below w.heap.size w w' := by
  obtain ⟨i, tt, cc, ho, hi⟩ := fo2_form (achk k p x q y f m)
  rw [ho] at qc
  rw [← hi]
  cases E
  · rw [Bool.false_and]
    cases i
    · exact (arightN0 k p x q y f m a b c d O RB tt cc w heq qo qc qr)
    · exact (arightN k p x q y f m a b c d O RB tt cc w heq qo qc qr)
  · cases i
    · by_cases h25 : k = 25
      · simp only [Bool.true_and, Bool.not_false, ne_eq, h25, not_true_eq_false, decide_false, Bool.false_or]
        rw [← h25]
        exact arightR k p x q y f m a b c d O RB tt cc w h25 heq qo qc qr
      · simp only [Bool.true_and, Bool.not_false, ne_eq, h25, not_false_eq_true, decide_true, Bool.true_or]
        exact arightK k p x q y f m a b c d O RB tt cc w h25 heq qo qc qr
    · exact arightC k p x q y f m a b c d O RB tt cc w heq qo qc qr
theorem oeq_0 (p x q y f : Int) (m : Bool) (a b c d : Nat) (w : World) :
    (Op.equalIn 10000 61 (.agg #[.int .i64 0, .int .i64 p, .int .i64 x, .int .i64 q, .int .i64 y, .int .i64 f, .bool m, .int .u64 (a : Int), .int .u64 (b : Int), .int .u64 (c : Int), .int .u64 (d : Int)]) (.agg #[.int .i64 0, .int .i64 p, .int .i64 x, .int .i64 0, .int .i64 0, .int .i64 0, .bool false, .int .u64 0, .int .u64 0, .int .u64 0, .int .u64 0])).run Tryz.prog w = .ok (ownE 0 p x q y f m a b c d) w := by
  have e : ∀ z, ownE 0 p x q y f m a b c d = z → z = ownE 0 p x q y f m a b c d := fun z h => h.symm
  go_simp
  unfold ownE oz
  repeat' split
  all_goals simp_all
theorem oeq_22 (p x q y f : Int) (m : Bool) (a b c d : Nat) (w : World) :
    (Op.equalIn 10000 61 (.agg #[.int .i64 22, .int .i64 p, .int .i64 x, .int .i64 q, .int .i64 y, .int .i64 f, .bool m, .int .u64 (a : Int), .int .u64 (b : Int), .int .u64 (c : Int), .int .u64 (d : Int)]) (.agg #[.int .i64 22, .int .i64 0, .int .i64 0, .int .i64 q, .int .i64 0, .int .i64 0, .bool false, .int .u64 0, .int .u64 0, .int .u64 0, .int .u64 0])).run Tryz.prog w = .ok (ownE 22 p x q y f m a b c d) w := by
  have e : ∀ z, ownE 22 p x q y f m a b c d = z → z = ownE 22 p x q y f m a b c d := fun z h => h.symm
  go_simp
  unfold ownE oz
  repeat' split
  all_goals simp_all
theorem oeq_17 (p x q y f : Int) (m : Bool) (a b c d : Nat) (w : World) :
    (Op.equalIn 10000 61 (.agg #[.int .i64 17, .int .i64 p, .int .i64 x, .int .i64 q, .int .i64 y, .int .i64 f, .bool m, .int .u64 (a : Int), .int .u64 (b : Int), .int .u64 (c : Int), .int .u64 (d : Int)]) (.agg #[.int .i64 17, .int .i64 0, .int .i64 0, .int .i64 0, .int .i64 y, .int .i64 0, .bool false, .int .u64 0, .int .u64 0, .int .u64 0, .int .u64 0])).run Tryz.prog w = .ok (ownE 17 p x q y f m a b c d) w := by
  have e : ∀ z, ownE 17 p x q y f m a b c d = z → z = ownE 17 p x q y f m a b c d := fun z h => h.symm
  go_simp
  unfold ownE oz
  repeat' split
  all_goals simp_all
theorem oeq_25 (p x q y f : Int) (m : Bool) (a b c d : Nat) (w : World) :
    (Op.equalIn 10000 61 (.agg #[.int .i64 25, .int .i64 p, .int .i64 x, .int .i64 q, .int .i64 y, .int .i64 f, .bool m, .int .u64 (a : Int), .int .u64 (b : Int), .int .u64 (c : Int), .int .u64 (d : Int)]) (.agg #[.int .i64 25, .int .i64 0, .int .i64 0, .int .i64 0, .int .i64 0, .int .i64 f, .bool m, .int .u64 (a : Int), .int .u64 (b : Int), .int .u64 (c : Int), .int .u64 (d : Int)])).run Tryz.prog w = .ok (ownE 25 p x q y f m a b c d) w := by
  have e : ∀ z, ownE 25 p x q y f m a b c d = z → z = ownE 25 p x q y f m a b c d := fun z h => h.symm
  go_simp
  unfold ownE oz
  repeat' split
  all_goals simp_all
theorem oeq_z (k p x q y f : Int) (m : Bool) (a b c d : Nat) (h0 : k ≠ 0) (h22 : k ≠ 22) (h17 : k ≠ 17) (h25 : k ≠ 25) (w : World) :
    (Op.equalIn 10000 61 (.agg #[.int .i64 k, .int .i64 p, .int .i64 x, .int .i64 q, .int .i64 y, .int .i64 f, .bool m, .int .u64 (a : Int), .int .u64 (b : Int), .int .u64 (c : Int), .int .u64 (d : Int)]) (.agg #[.int .i64 k, .int .i64 0, .int .i64 0, .int .i64 0, .int .i64 0, .int .i64 0, .bool false, .int .u64 0, .int .u64 0, .int .u64 0, .int .u64 0])).run Tryz.prog w = .ok (ownE k p x q y f m a b c d) w := by
  have e : ∀ z, ownE k p x q y f m a b c d = z → z = ownE k p x q y f m a b c d := fun z h => h.symm
  go_simp
  unfold ownE oz
  repeat' split
  all_goals simp_all
theorem achk_any (k p x q y f : Int) (m : Bool) (a b c d : Nat) (w : World) :
    Calls Tryz.prog 138 #[.agg #[.int .i64 k, .int .i64 p, .int .i64 x, .int .i64 q, .int .i64 y, .int .i64 f, .bool m, .int .u64 (a : Int), .int .u64 (b : Int), .int .u64 (c : Int), .int .u64 (d : Int)]] w fun e w' => e = .returned (fo2 (achk k p x q y f m)) ∧ Below w.heap.size w w' := by
  by_cases h0 : k = 0
  · subst h0
    cases hg : goB p
    · exact chk_0a p x q y f m a b c d w hg
    · exact chk_0b p x q y f m a b c d w hg
  by_cases h22 : k = 22
  · subst h22
    by_cases hq : 0 ≤ q
    · exact chk_22a p x q y f m a b c d w hq
    · exact chk_22b p x q y f m a b c d w hq
  by_cases h17 : k = 17
  · subst h17
    by_cases hq : y = 33024
    · exact chk_17a p x q y f m a b c d w hq
    · by_cases hr : y = 34984
      · exact chk_17b p x q y f m a b c d w hr
      · exact chk_17c p x q y f m a b c d w hq hr
  by_cases h18 : k = 18
  · subst h18
    exact chk_18 p x q y f m a b c d w
  by_cases h25 : k = 25
  · subst h25
    cases hg : setsB f
    · exact chk_25a p x q y f m a b c d w hg
    · exact chk_25b p x q y f m a b c d w hg
  · exact chk_z k p x q y f m a b c d w h0 h22 h17 h18 h25
theorem aright_any (k p x q y f : Int) (m : Bool) (a b c d : Nat) (w : World) (ha : a < 18446744073709551616) (hb : b < 18446744073709551616) (hc : c < 18446744073709551616) (hd : d < 18446744073709551616) :
    Calls Tryz.prog 115 #[av k p x q y f m a b c d] w fun e w' => e = .returned (.bool (art k p x q y f m a b c d)) ∧ Below w.heap.size w w' := by
  have qc := fun w => achk_any k p x q y f m a b c d w
  have qr := fun w => oright_any f m a b c d w ha hb hc hd
  unfold art
  unfold av
  by_cases h0 : k = 0
  · subst h0
    exact aright_of 0 p x q y f m a b c d _ _ _ w (fun w => oeq_0 p x q y f m a b c d w) (fun w => own_0 p x q y f m a b c d w) qc qr
  by_cases h22 : k = 22
  · subst h22
    exact aright_of 22 p x q y f m a b c d _ _ _ w (fun w => oeq_22 p x q y f m a b c d w) (fun w => own_22 p x q y f m a b c d w) qc qr
  by_cases h17 : k = 17
  · subst h17
    exact aright_of 17 p x q y f m a b c d _ _ _ w (fun w => oeq_17 p x q y f m a b c d w) (fun w => own_17 p x q y f m a b c d w) qc qr
  by_cases h25 : k = 25
  · subst h25
    exact aright_of 25 p x q y f m a b c d _ _ _ w (fun w => oeq_25 p x q y f m a b c d w) (fun w => own_25 p x q y f m a b c d w) qc qr
  · exact aright_of k p x q y f m a b c d _ _ _ w (fun w => oeq_z k p x q y f m a b c d h0 h22 h17 h25 w) (fun w => own_z k p x q y f m a b c d w h0 h22 h17 h25) qc qr
end Go.Proofs.YthhijfphfcmniaaGreat
