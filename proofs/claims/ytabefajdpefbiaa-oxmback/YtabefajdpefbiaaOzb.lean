import Derived.Test.YtabefajdpefbiaaOz
import Derived.Deep.RegionHeld3
import Derived.Deep.RegionWith
import Derived.Deep.MidRow
import Derived.Deep.Cut
namespace Go.Proofs.Ytabefajdpefbiaa
open Go Go.RowKit
set_option linter.unusedVariables false
set_option linter.unusedSimpArgs false

set_option maxRecDepth 100000 in
set_option maxHeartbeats 8000000 in
theorem back_no_ok (f : Int) (m : Bool) (a b c d : Nat) (ao : Option Addr) (cap : Nat) (l : List Int) (w : World) (ha : a < 18446744073709551616) (hb : b < 18446744073709551616) (hc : c < 18446744073709551616) (hd : d < 18446744073709551616) (hB : Bytes w (.slice ao l.length cap) l) (hr : rgt f m a b c d = false) (f2 : Int) (m2 : Bool) (a2 b2 c2 d2 n : Nat) (hv : decV l = .tuple #[ov f2 m2 a2 b2 c2 d2, .int .i64 (n : Int), fv false 0 0]) (hn : n ≤ l.length)
    (p2 : ∀ w, Calls Try.prog 7 #[ov f2 m2 a2 b2 c2 d2] w fun e w' => ∃ r, e = .returned (.tuple #[r, .int .i64 0]) ∧ Bytes w' r (l.take n) ∧ Below w.heap.size w w') :
    Calls Try.prog 5 #[ov f m a b c d, .slice ao l.length cap] w fun e w' => e = .returned (.bool true) ∧ Below w.heap.size w w' := by
  have q1 := hide_ (fun w => oenc_no f m a b c d w ha hb hc hd hr)
  have aw := hide_ (fun w => awake10_any w)
  have A0 := hide_ (AB.at0 w 26 [.int .i64 f, .bool m, .int .u64 (a : Int), .int .u64 (b : Int), .int .u64 (c : Int), .int .u64 (d : Int)])
  have B0 := hide_ (below1 w (.cells #[.int .i64 f, .bool m, .int .u64 (a : Int), .int .u64 (b : Int), .int .u64 (c : Int), .int .u64 (d : Int)] 26))
  obtain ⟨y0, y1, y2, y3, y4, y5, -⟩ := A0.out.six
  have qd : ∀ W, Below w.heap.size w W → Calls Try.prog 17 #[.slice ao l.length cap] W fun e w' => e = .returned (decV l) ∧ Below W.heap.size W w' := fun W hW => odec_any _ l W (hB.later hW)
  rw [hv] at qd
  obtain ⟨s1, s2, s3⟩ := bytes_take hB n hn
  have S3 := hide_ s3
  have gn : ((n : Nat) : Int) ≤ (l.length : Int) := by omega
  clear ha hb hc hd hr hv hB hn s3
  unfold ov fv at *
  have qd := hide_ qd
  have p2 := hide_ p2
  go_enter Try.func5, Try.ntmps5
  go_wp2_with (first | (go_at_call_of 7 (Value.agg #[.int .i64 f, .bool m, .int .u64 (a : Int), .int .u64 (b : Int), .int .u64 (c : Int), .int .u64 (d : Int)]); refine (q1.out _).mono ?_; rintro e w1 ⟨rfl, b1⟩; have k1 := B0.out.trans (b1.mono B0.out.size)) | (go_at_call 17; refine (qd.out _ k1).mono ?_; rintro e w2 ⟨rfl, bb2⟩; have k2 : Below w.heap.size w ((w2.alloc (.cells #[.int .i64 f2, .bool m2, .int .u64 (a2 : Int), .int .u64 (b2 : Int), .int .u64 (c2 : Int), .int .u64 (d2 : Int)] 26)).alloc (.cells #[.bool false, .int .i64 0, .int .i64 0] 39)) := k1.trans ((bb2.trans ((below2 w2 _ _).mono bb2.size)).mono k1.size); obtain ⟨x0, x1, x2, x3, x4, x5, -⟩ := ((AB.at0 w2 26 [.int .i64 f2, .bool m2, .int .u64 (a2 : Int), .int .u64 (b2 : Int), .int .u64 (c2 : Int), .int .u64 (d2 : Int)]).alloc (.cells #[.bool false, .int .i64 0, .int .i64 0] 39)).six; obtain ⟨g0, g1, g2, -⟩ := (AB.at1 w2 (.cells #[.int .i64 f2, .bool m2, .int .u64 (a2 : Int), .int .u64 (b2 : Int), .int .u64 (c2 : Int), .int .u64 (d2 : Int)] 26) 39 [.bool false, .int .i64 0, .int .i64 0]).three) | (go_at_call_of 7 (Value.agg #[.int .i64 f2, .bool m2, .int .u64 (a2 : Int), .int .u64 (b2 : Int), .int .u64 (c2 : Int), .int .u64 (d2 : Int)]); refine (p2.out _).mono ?_; rintro e w3 ⟨r, rfl, h3, b3⟩; have k3 := k2.trans (b3.mono k2.size); have qe := equal_any r _ _ _ w3 h3 (S3.out.later k3); rw [beq_self_eq_true] at qe; have qe := hide_ qe; clear h3) | (go_at_call 9; refine qe.out.mono ?_; rintro e w4 ⟨rfl, b4⟩; have k4 := k3.trans (b4.mono k3.size)) | (go_at_call 16; refine (aw.out _).mono ?_; rintro e w5 ⟨rfl, b5⟩))
  go_ret
  exact ⟨rfl, k4.trans (b5.mono k4.size)⟩


end Go.Proofs.Ytabefajdpefbiaa
