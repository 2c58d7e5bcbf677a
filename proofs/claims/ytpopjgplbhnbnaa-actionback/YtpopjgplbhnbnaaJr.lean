import Derived.Test.YtpopjgplbhnbnaaJo
import Derived.Test.YtpopjgplbhnbnaaJv
import Derived.Test.YtpopjgplbhnbnaaOz
import Derived.Deep.RegionHeld3
import Derived.Deep.RegionWith
import Derived.Deep.MidRow
import Derived.Deep.Cut
namespace Go.Proofs.Ytpopjgplbhnbnaa
section
open Go Go.RowKit
set_option linter.unusedVariables false
set_option linter.unusedSimpArgs false

set_option maxRecDepth 100000 in
set_option maxHeartbeats 8000000 in
theorem aback_no_fault (kA pA xA qA yA fA : Int) (mA : Bool) (aA bA cA dA : Nat) (ao : Option Addr) (cap : Nat) (l : List Int) (w : World) (hB : Bytes w (.slice ao l.length cap) l)
    (q1 : ∀ w, Calls Try.prog 6 #[.agg #[.int .i64 kA, .int .i64 pA, .int .i64 xA, .int .i64 qA, .int .i64 yA, .int .i64 fA, .bool mA, .int .u64 (aA : Int), .int .u64 (bA : Int), .int .u64 (cA : Int), .int .u64 (dA : Int)]] w fun e w' => e = .returned (.tuple #[.slice none 0 0, .int .i64 1]) ∧ Below w.heap.size w w') (tt cc : Int) (qd : ∀ W, Below w.heap.size w W → Calls Try.prog 16 #[.slice ao l.length cap] W fun e w' => e = .returned (.tuple #[.agg #[.int .i64 0, .int .i64 0, .int .i64 0, .int .i64 0, .int .i64 0, .int .i64 0, .bool false, .int .u64 0, .int .u64 0, .int .u64 0, .int .u64 0], .int .i64 0, .agg #[.bool true, .int .i64 tt, .int .i64 cc]]) ∧ Below W.heap.size W w') :
    Calls Try.prog 5 #[.agg #[.int .i64 kA, .int .i64 pA, .int .i64 xA, .int .i64 qA, .int .i64 yA, .int .i64 fA, .bool mA, .int .u64 (aA : Int), .int .u64 (bA : Int), .int .u64 (cA : Int), .int .u64 (dA : Int)], .slice ao l.length cap] w fun e w' => e = .returned (.bool true) ∧ Below w.heap.size w w' := by
  have aw := hide_ (fun w => awake12_any w)
  have B0 := hide_ (below1 w (.cells #[.int .i64 kA, .int .i64 pA, .int .i64 xA, .int .i64 qA, .int .i64 yA, .int .i64 fA, .bool mA, .int .u64 (aA : Int), .int .u64 (bA : Int), .int .u64 (cA : Int), .int .u64 (dA : Int)] 28))
  have q1 := hide_ q1
  have qd := hide_ qd
  clear hB
  go_enter Try.func5, Try.ntmps5
  go_wp2_with (first | (go_at_call_of 6 (Value.agg #[.int .i64 kA, .int .i64 pA, .int .i64 xA, .int .i64 qA, .int .i64 yA, .int .i64 fA, .bool mA, .int .u64 (aA : Int), .int .u64 (bA : Int), .int .u64 (cA : Int), .int .u64 (dA : Int)]); refine (q1.out _).mono ?_; rintro e w1 ⟨rfl, b1⟩; have k1 := B0.out.trans (b1.mono B0.out.size)) | (go_at_call 16; refine (qd.out _ k1).mono ?_; rintro e w2 ⟨rfl, bb2⟩; have k2 : Below w.heap.size w ((w2.alloc (.cells #[.int .i64 0, .int .i64 0, .int .i64 0, .int .i64 0, .int .i64 0, .int .i64 0, .bool false, .int .u64 0, .int .u64 0, .int .u64 0, .int .u64 0] 28)).alloc (.cells #[.bool true, .int .i64 tt, .int .i64 cc] 40)) := k1.trans ((bb2.trans ((below2 w2 _ _).mono bb2.size)).mono k1.size); obtain ⟨xx0, xx1, xx2, xx3, xx4, xx5, xx6, xx7, xx8, xx9, xx10, -⟩ := ((AB.at0 w2 28 [.int .i64 0, .int .i64 0, .int .i64 0, .int .i64 0, .int .i64 0, .int .i64 0, .bool false, .int .u64 0, .int .u64 0, .int .u64 0, .int .u64 0]).alloc (.cells #[.bool true, .int .i64 tt, .int .i64 cc] 40)).eleven; obtain ⟨gg0, gg1, gg2, -⟩ := (AB.at1 w2 (.cells #[.int .i64 0, .int .i64 0, .int .i64 0, .int .i64 0, .int .i64 0, .int .i64 0, .bool false, .int .u64 0, .int .u64 0, .int .u64 0, .int .u64 0] 28) 40 [.bool true, .int .i64 tt, .int .i64 cc]).three) | (go_at_call 15; refine (aw.out _).mono ?_; rintro e w3 ⟨rfl, b3⟩))
  go_ret
  exact ⟨rfl, k2.trans (b3.mono k2.size)⟩

set_option maxRecDepth 100000 in
set_option maxHeartbeats 8000000 in
theorem aback_no_ok (kA pA xA qA yA fA : Int) (mA : Bool) (aA bA cA dA : Nat) (ao : Option Addr) (cap : Nat) (l : List Int) (w : World) (hB : Bytes w (.slice ao l.length cap) l)
    (q1 : ∀ w, Calls Try.prog 6 #[.agg #[.int .i64 kA, .int .i64 pA, .int .i64 xA, .int .i64 qA, .int .i64 yA, .int .i64 fA, .bool mA, .int .u64 (aA : Int), .int .u64 (bA : Int), .int .u64 (cA : Int), .int .u64 (dA : Int)]] w fun e w' => e = .returned (.tuple #[.slice none 0 0, .int .i64 1]) ∧ Below w.heap.size w w') (kB pB xB qB yB fB : Int) (mB : Bool) (aB bB cB dB : Nat) (n : Nat) (hn : n ≤ l.length) (qd : ∀ W, Below w.heap.size w W → Calls Try.prog 16 #[.slice ao l.length cap] W fun e w' => e = .returned (.tuple #[.agg #[.int .i64 kB, .int .i64 pB, .int .i64 xB, .int .i64 qB, .int .i64 yB, .int .i64 fB, .bool mB, .int .u64 (aB : Int), .int .u64 (bB : Int), .int .u64 (cB : Int), .int .u64 (dB : Int)], .int .i64 (n : Int), .agg #[.bool false, .int .i64 0, .int .i64 0]]) ∧ Below W.heap.size W w') (p2 : ∀ w, Calls Try.prog 6 #[.agg #[.int .i64 kB, .int .i64 pB, .int .i64 xB, .int .i64 qB, .int .i64 yB, .int .i64 fB, .bool mB, .int .u64 (aB : Int), .int .u64 (bB : Int), .int .u64 (cB : Int), .int .u64 (dB : Int)]] w fun e w' => ∃ r, e = .returned (.tuple #[r, .int .i64 0]) ∧ Bytes w' r (l.take n) ∧ Below w.heap.size w w') :
    Calls Try.prog 5 #[.agg #[.int .i64 kA, .int .i64 pA, .int .i64 xA, .int .i64 qA, .int .i64 yA, .int .i64 fA, .bool mA, .int .u64 (aA : Int), .int .u64 (bA : Int), .int .u64 (cA : Int), .int .u64 (dA : Int)], .slice ao l.length cap] w fun e w' => e = .returned (.bool true) ∧ Below w.heap.size w w' := by
  have aw := hide_ (fun w => awake12_any w)
  have B0 := hide_ (below1 w (.cells #[.int .i64 kA, .int .i64 pA, .int .i64 xA, .int .i64 qA, .int .i64 yA, .int .i64 fA, .bool mA, .int .u64 (aA : Int), .int .u64 (bA : Int), .int .u64 (cA : Int), .int .u64 (dA : Int)] 28))
  have q1 := hide_ q1
  have qd := hide_ qd
  obtain ⟨t1, t2, t3⟩ := bytes_take hB n hn
  have T3 := hide_ t3
  have gn : ((n : Nat) : Int) ≤ (l.length : Int) := by omega
  clear t3 hn
  have p2 := hide_ p2
  clear hB
  go_enter Try.func5, Try.ntmps5
  go_wp2_with (first | (go_at_call_of 6 (Value.agg #[.int .i64 kA, .int .i64 pA, .int .i64 xA, .int .i64 qA, .int .i64 yA, .int .i64 fA, .bool mA, .int .u64 (aA : Int), .int .u64 (bA : Int), .int .u64 (cA : Int), .int .u64 (dA : Int)]); refine (q1.out _).mono ?_; rintro e w1 ⟨rfl, b1⟩; have k1 := B0.out.trans (b1.mono B0.out.size)) | (go_at_call 16; refine (qd.out _ k1).mono ?_; rintro e w2 ⟨rfl, bb2⟩; have k2 : Below w.heap.size w ((w2.alloc (.cells #[.int .i64 kB, .int .i64 pB, .int .i64 xB, .int .i64 qB, .int .i64 yB, .int .i64 fB, .bool mB, .int .u64 (aB : Int), .int .u64 (bB : Int), .int .u64 (cB : Int), .int .u64 (dB : Int)] 28)).alloc (.cells #[.bool false, .int .i64 0, .int .i64 0] 40)) := k1.trans ((bb2.trans ((below2 w2 _ _).mono bb2.size)).mono k1.size); obtain ⟨xx0, xx1, xx2, xx3, xx4, xx5, xx6, xx7, xx8, xx9, xx10, -⟩ := ((AB.at0 w2 28 [.int .i64 kB, .int .i64 pB, .int .i64 xB, .int .i64 qB, .int .i64 yB, .int .i64 fB, .bool mB, .int .u64 (aB : Int), .int .u64 (bB : Int), .int .u64 (cB : Int), .int .u64 (dB : Int)]).alloc (.cells #[.bool false, .int .i64 0, .int .i64 0] 40)).eleven; obtain ⟨gg0, gg1, gg2, -⟩ := (AB.at1 w2 (.cells #[.int .i64 kB, .int .i64 pB, .int .i64 xB, .int .i64 qB, .int .i64 yB, .int .i64 fB, .bool mB, .int .u64 (aB : Int), .int .u64 (bB : Int), .int .u64 (cB : Int), .int .u64 (dB : Int)] 28) 40 [.bool false, .int .i64 0, .int .i64 0]).three) | (go_at_call_of 6 (Value.agg #[.int .i64 kB, .int .i64 pB, .int .i64 xB, .int .i64 qB, .int .i64 yB, .int .i64 fB, .bool mB, .int .u64 (aB : Int), .int .u64 (bB : Int), .int .u64 (cB : Int), .int .u64 (dB : Int)]); refine (p2.out _).mono ?_; rintro e w3 ⟨r, rfl, h3, b3⟩; have k3 := k2.trans (b3.mono k2.size); have qe := equal_any r _ _ _ w3 h3 (T3.out.later k3); rw [beq_self_eq_true] at qe; have qe := hide_ qe; clear h3) | (go_at_call 8; refine qe.out.mono ?_; rintro e w4 ⟨rfl, b4⟩; have k4 := k3.trans (b4.mono k3.size)) | (go_at_call 15; refine (aw.out _).mono ?_; rintro e w5 ⟨rfl, b5⟩))
  go_ret
  exact ⟨rfl, k4.trans (b5.mono k4.size)⟩
end

end Go.Proofs.Ytpopjgplbhnbnaa
