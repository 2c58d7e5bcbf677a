import Derived.Test.YtabefajdpefbiaaOz
import Derived.Deep.RegionHeld3
import Derived.Deep.RegionWith
import Derived.Deep.MidRow
import Derived.Deep.Cut
namespace Go.Proofs.Ytabefajdpefbiaa
open Go Go.RowKit
set_option linter.unusedVariables false
set_option linter.unusedSimpArgs false

set_option maxRecDepth 100000 in
set_option maxHeartbeats 8000000 in
theorem back_no_fault (f : Int) (m : Bool) (a b c d : Nat) (ao : Option Addr) (cap : Nat) (l : List Int) (w : World) (ha : a < 18446744073709551616) (hb : b < 18446744073709551616) (hc : c < 18446744073709551616) (hd : d < 18446744073709551616) (hB : Bytes w (.slice ao l.length cap) l) (hr : rgt f m a b c d = false) (k : Int) (hv : decV l = .tuple #[ov 0 false 0 0 0 0, .int .i64 0, fv true 4 k]) :
    Calls Try.prog 5 #[ov f m a b c d, .slice ao l.length cap] w fun e w' => e = .returned (.bool true) ∧ Below w.heap.size w w' := by
  have q1 := hide_ (fun w => oenc_no f m a b c d w ha hb hc hd hr)
  have aw := hide_ (fun w => awake10_any w)
  have A0 := hide_ (AB.at0 w 26 [.int .i64 f, .bool m, .int .u64 (a : Int), .int .u64 (b : Int), .int .u64 (c : Int), .int .u64 (d : Int)])
  have B0 := hide_ (below1 w (.cells #[.int .i64 f, .bool m, .int .u64 (a : Int), .int .u64 (b : Int), .int .u64 (c : Int), .int .u64 (d : Int)] 26))
  obtain ⟨y0, y1, y2, y3, y4, y5, -⟩ := A0.out.six
  have qd : ∀ W, Below w.heap.size w W → Calls Try.prog 17 #[.slice ao l.length cap] W fun e w' => e = .returned (decV l) ∧ Below W.heap.size W w' := fun W hW => odec_any _ l W (hB.later hW)
  rw [hv] at qd
  clear ha hb hc hd hr hv hB
  unfold ov fv at *
  have qd := hide_ qd
  go_enter Try.func5, Try.ntmps5
  go_wp2_with (first | (go_at_call_of 7 (Value.agg #[.int .i64 f, .bool m, .int .u64 (a : Int), .int .u64 (b : Int), .int .u64 (c : Int), .int .u64 (d : Int)]); refine (q1.out _).mono ?_; rintro e w1 ⟨rfl, b1⟩; have k1 := B0.out.trans (b1.mono B0.out.size)) | (go_at_call 17; refine (qd.out _ k1).mono ?_; rintro e w2 ⟨rfl, b2⟩; have k2 : Below w.heap.size w ((w2.alloc (.cells #[.int .i64 0, .bool false, .int .u64 0, .int .u64 0, .int .u64 0, .int .u64 0] 26)).alloc (.cells #[.bool true, .int .i64 4, .int .i64 k] 39)) := k1.trans ((b2.trans ((below2 w2 _ _).mono b2.size)).mono k1.size); obtain ⟨x0, x1, x2, x3, x4, x5, -⟩ := ((AB.at0 w2 26 [.int .i64 0, .bool false, .int .u64 0, .int .u64 0, .int .u64 0, .int .u64 0]).alloc (.cells #[.bool true, .int .i64 4, .int .i64 k] 39)).six; obtain ⟨g0, g1, g2, -⟩ := (AB.at1 w2 (.cells #[.int .i64 0, .bool false, .int .u64 0, .int .u64 0, .int .u64 0, .int .u64 0] 26) 39 [.bool true, .int .i64 4, .int .i64 k]).three) | (go_at_call 16; refine (aw.out _).mono ?_; rintro e w3 ⟨rfl, b3⟩))
  go_ret
  exact ⟨rfl, k2.trans (b3.mono k2.size)⟩


end Go.Proofs.Ytabefajdpefbiaa
