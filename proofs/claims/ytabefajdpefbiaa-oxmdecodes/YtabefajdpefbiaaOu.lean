import Derived.Test.YtabefajdpefbiaaOt
import Derived.Test.YtabefajdpefbiaaOr
import Derived.Deep.RegionHeld3
import Derived.Deep.RegionWith
import Derived.Deep.MidRow
import Derived.Deep.Cut
namespace Go.Proofs.Ytabefajdpefbiaa
open Go Go.RowKit
set_option linter.unusedVariables false
set_option linter.unusedSimpArgs false

theorem decV_form (l : List Int) : ∃ f m a b c d n is t k, decV l = .tuple #[ov f m a b c d, .int .i64 n, fv is t k] := by
  unfold decV
  split
  · split
    · exact ⟨_, _, _, _, _, _, _, _, _, _, rfl⟩
    · exact ⟨_, _, _, _, _, _, _, _, _, _, rfl⟩
  · exact ⟨_, _, _, _, _, _, _, _, _, _, rfl⟩

set_option maxRecDepth 100000 in
set_option maxHeartbeats 8000000 in
theorem oxmDecodes_walk (v : Value) (l : List Int) (w : World) (hB : Bytes w v l) :
    Calls Try.prog 4 #[v] w fun e w' => e = .returned (.bool true) ∧ Below w.heap.size w w' := by
  obtain ⟨f, m, a, b, c, d, n, is, t, k, hdv⟩ := decV_form l
  have q1 := odec_any v l w hB
  have q2 : ∀ W, Below w.heap.size w W → Calls Try.prog 18 #[v] W fun e w' => e = .returned (decV l) ∧ Below W.heap.size W w' := fun W hW => rodec_any v l W (hB.later hW)
  rw [hdv] at q1 q2
  have aw := hide_ (fun w => awake10_any w)
  unfold ov fv at q1 q2
  have q1 := hide_ q1
  have q2 := hide_ q2
  clear hB hdv
  go_enter Try.func4, Try.ntmps4
  go_wp2_with (first | (go_at_call 17; refine q1.out.mono ?_; rintro e w1 ⟨rfl, b1⟩; have k1 : Below w.heap.size w ((w1.alloc (.cells #[.int .i64 f, .bool m, .int .u64 (a : Int), .int .u64 (b : Int), .int .u64 (c : Int), .int .u64 (d : Int)] 26)).alloc (.cells #[.bool is, .int .i64 t, .int .i64 k] 39)) := b1.trans ((below2 w1 _ _).mono b1.size); have X0 := hide_ ((AB.at0 w1 26 [.int .i64 f, .bool m, .int .u64 (a : Int), .int .u64 (b : Int), .int .u64 (c : Int), .int .u64 (d : Int)]).alloc (.cells #[.bool is, .int .i64 t, .int .i64 k] 39)); have G0 := hide_ (AB.at1 w1 (.cells #[.int .i64 f, .bool m, .int .u64 (a : Int), .int .u64 (b : Int), .int .u64 (c : Int), .int .u64 (d : Int)] 26) 39 [.bool is, .int .i64 t, .int .i64 k])) | (go_at_call 18; refine (q2.out _ k1).mono ?_; rintro e w2 ⟨rfl, b2⟩; have j2 : Below ((w1.alloc (.cells #[.int .i64 f, .bool m, .int .u64 (a : Int), .int .u64 (b : Int), .int .u64 (c : Int), .int .u64 (d : Int)] 26)).alloc (.cells #[.bool is, .int .i64 t, .int .i64 k] 39)).heap.size ((w1.alloc (.cells #[.int .i64 f, .bool m, .int .u64 (a : Int), .int .u64 (b : Int), .int .u64 (c : Int), .int .u64 (d : Int)] 26)).alloc (.cells #[.bool is, .int .i64 t, .int .i64 k] 39)) ((w2.alloc (.cells #[.int .i64 f, .bool m, .int .u64 (a : Int), .int .u64 (b : Int), .int .u64 (c : Int), .int .u64 (d : Int)] 26)).alloc (.cells #[.bool is, .int .i64 t, .int .i64 k] 39)) := b2.trans ((below2 w2 _ _).mono b2.size); have k2 := k1.trans (j2.mono k1.size); obtain ⟨x0, x1, x2, x3, x4, x5, -⟩ := (X0.out.later j2).six; obtain ⟨g0, g1, g2, -⟩ := (G0.out.later j2).three; obtain ⟨y0, y1, y2, y3, y4, y5, -⟩ := ((AB.at0 w2 26 [.int .i64 f, .bool m, .int .u64 (a : Int), .int .u64 (b : Int), .int .u64 (c : Int), .int .u64 (d : Int)]).alloc (.cells #[.bool is, .int .i64 t, .int .i64 k] 39)).six; obtain ⟨u0, u1, u2, -⟩ := (AB.at1 w2 (.cells #[.int .i64 f, .bool m, .int .u64 (a : Int), .int .u64 (b : Int), .int .u64 (c : Int), .int .u64 (d : Int)] 26) 39 [.bool is, .int .i64 t, .int .i64 k]).three) | (go_at_call 16; refine (aw.out _).mono ?_; rintro e w3 ⟨rfl, b3⟩))
  go_ret
  exact ⟨rfl, k2.trans (b3.mono k2.size)⟩


end Go.Proofs.Ytabefajdpefbiaa
