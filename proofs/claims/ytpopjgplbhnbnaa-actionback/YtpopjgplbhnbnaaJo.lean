import Derived.Test.YtpopjgplbhnbnaaJn
import Derived.Test.YtpopjgplbhnbnaaJf
import Derived.Test.YtpopjgplbhnbnaaJd
import Derived.Test.YtpopjgplbhnbnaaJg
import Derived.Deep.RegionHeld3
import Derived.Deep.RegionWith
import Derived.Deep.MidRow
import Derived.Deep.Cut
namespace Go.Proofs.Ytpopjgplbhnbnaa
section
open Go Go.RowKit
set_option linter.unusedVariables false
set_option linter.unusedSimpArgs false

theorem L16_enc : aencL 0 4294967293 128 0 0 0 false 0 0 0 0 = [0, 0, 0, 16, 255, 255, 255, 253, 0, 128, 0, 0, 0, 0, 0, 0] := by decide
theorem L16_dec : Ans [0, 0, 0, 16, 255, 255, 255, 253, 0, 128, 0, 0, 0, 0, 0, 0] (okV 0 4294967293 128 0 0 0 false 0 0 0 0 16) := by
  have hr : Reads ([0, 0, 0, 16, 255, 255, 255, 253, 0, 128, 0, 0, 0, 0, 0, 0].take 16) 16 (okV 0 4294967293 128 0 0 0 false 0 0 0 0 10) := fun ao cap w hB => read_0 ao cap _ w hB (by decide)
  exact (P_gen 0 4294967293 128 0 0 0 false 0 0 0 0 (l := [0, 0, 0, 16, 255, 255, 255, 253, 0, 128, 0, 0, 0, 0, 0, 0]) (N := 16) (u := 10) (by decide) (by decide) (by decide) (by decide) (by decide) hr).of (by rw [if_neg (by decide), (by decide : achk 0 4294967293 128 0 0 0 false = none)])
theorem nil_dec : Ans [] (badV 1) := P_len (by simp)

set_option maxRecDepth 100000 in
set_option maxHeartbeats 4000000 in
theorem awake12_any (w : World) : Calls Try.prog 15 #[] w fun e w' => e = .returned (.bool true) ∧ Below w.heap.size w w' := by
  have hart : art 0 4294967293 128 0 0 0 false 0 0 0 0 = true := by decide
  have q1 : Hid (∀ w, Calls Try.prog 6 #[.agg #[.int .i64 0, .int .i64 4294967293, .int .i64 128, .int .i64 0, .int .i64 0, .int .i64 0, .bool false, .int .u64 0, .int .u64 0, .int .u64 0, .int .u64 0]] w fun e w' => ∃ ao cap, e = .returned (.tuple #[.slice ao 16 cap, .int .i64 0]) ∧ Bytes w' (.slice ao 16 cap) [0, 0, 0, 16, 255, 255, 255, 253, 0, 128, 0, 0, 0, 0, 0, 0] ∧ Below w.heap.size w w') := hide_ (fun w => (aenc_yes 0 4294967293 128 0 0 0 false 0 0 0 0 w (by decide) (by decide) (by decide) (by decide) hart).mono (by
    rintro e w' ⟨r, rfl, h, b⟩
    rw [L16_enc] at h
    obtain ⟨ao, cap, rfl, h1⟩ := h
    exact ⟨ao, cap, rfl, ⟨ao, cap, rfl, h1⟩, b⟩))
  have q2 : Hid (∀ v w, Bytes w v [0, 0, 0, 16, 255, 255, 255, 253, 0, 128, 0, 0, 0, 0, 0, 0] → Calls Try.prog 16 #[v] w fun e w' => e = .returned (.tuple #[.agg #[.int .i64 0, .int .i64 4294967293, .int .i64 128, .int .i64 0, .int .i64 0, .int .i64 0, .bool false, .int .u64 0, .int .u64 0, .int .u64 0, .int .u64 0], .int .i64 16, .agg #[.bool false, .int .i64 0, .int .i64 0]]) ∧ Below w.heap.size w w') := hide_ (fun v w hB => L16_dec v w hB)
  have q3 : Hid (∀ w, Calls Try.prog 16 #[.slice none 0 0] w fun e w' => e = .returned (.tuple #[.agg #[.int .i64 0, .int .i64 0, .int .i64 0, .int .i64 0, .int .i64 0, .int .i64 0, .bool false, .int .u64 0, .int .u64 0, .int .u64 0, .int .u64 0], .int .i64 0, .agg #[.bool true, .int .i64 2, .int .i64 1]]) ∧ Below w.heap.size w w') := hide_ (fun w => nil_dec _ w (Bytes.nil w))
  have q4 := fun w => aright_any 0 4294967293 128 0 0 0 false 0 0 0 0 w (by decide) (by decide) (by decide) (by decide)
  rw [hart] at q4
  have q4 : Hid (∀ w, Calls Try.prog 9 #[.agg #[.int .i64 0, .int .i64 4294967293, .int .i64 128, .int .i64 0, .int .i64 0, .int .i64 0, .bool false, .int .u64 0, .int .u64 0, .int .u64 0, .int .u64 0]] w fun e w' => e = .returned (.bool true) ∧ Below w.heap.size w w') := hide_ q4
  have q5 := fun w => asame_any 0 4294967293 128 0 0 0 false 0 0 0 0 0 4294967293 128 0 0 0 false 0 0 0 0 w
  rw [(by decide : sameB 0 4294967293 128 0 0 0 false 0 0 0 0 0 4294967293 128 0 0 0 false 0 0 0 0 = true)] at q5
  have q5 : Hid (∀ w, Calls Try.prog 13 #[.agg #[.int .i64 0, .int .i64 4294967293, .int .i64 128, .int .i64 0, .int .i64 0, .int .i64 0, .bool false, .int .u64 0, .int .u64 0, .int .u64 0, .int .u64 0], .agg #[.int .i64 0, .int .i64 4294967293, .int .i64 128, .int .i64 0, .int .i64 0, .int .i64 0, .bool false, .int .u64 0, .int .u64 0, .int .u64 0, .int .u64 0]] w fun e w' => e = .returned (.bool true) ∧ Below w.heap.size w w') := hide_ q5
  have q6 := fun w => asets_any 2 w
  rw [(by decide : setsB 2 = true)] at q6
  have q6 := hide_ q6
  have q7 := fun w => asets_any 0 w
  rw [(by decide : setsB 0 = false)] at q7
  have q7 := hide_ q7
  have A0 := hide_ (AB.at0 w 28 [.int .i64 0, .int .i64 4294967293, .int .i64 128, .int .i64 0, .int .i64 0, .int .i64 0, .bool false, .int .u64 0, .int .u64 0, .int .u64 0, .int .u64 0])
  have B0 := hide_ (below1 w (.cells #[.int .i64 0, .int .i64 4294967293, .int .i64 128, .int .i64 0, .int .i64 0, .int .i64 0, .bool false, .int .u64 0, .int .u64 0, .int .u64 0, .int .u64 0] 28))
  clear hart
  go_enter Try.func15, Try.ntmps15
  go_wp2_with (first | (go_at_call 6; refine (q1.out _).mono ?_; rintro e w1 ⟨ao, cap, rfl, h1, k1⟩; have h1 := hide_ h1) | (go_at_call_of 16 (Value.slice ao 16 cap); refine (q2.out _ _ h1.out).mono ?_; rintro e w2 ⟨rfl, b2⟩; have k2 : Below (w.alloc (.cells #[.int .i64 0, .int .i64 4294967293, .int .i64 128, .int .i64 0, .int .i64 0, .int .i64 0, .bool false, .int .u64 0, .int .u64 0, .int .u64 0, .int .u64 0] 28)).heap.size (w.alloc (.cells #[.int .i64 0, .int .i64 4294967293, .int .i64 128, .int .i64 0, .int .i64 0, .int .i64 0, .bool false, .int .u64 0, .int .u64 0, .int .u64 0, .int .u64 0] 28)) ((w2.alloc (.cells #[.int .i64 0, .int .i64 4294967293, .int .i64 128, .int .i64 0, .int .i64 0, .int .i64 0, .bool false, .int .u64 0, .int .u64 0, .int .u64 0, .int .u64 0] 28)).alloc (.cells #[.bool false, .int .i64 0, .int .i64 0] 40)) := (k1.trans (b2.mono k1.size)).trans ((below2 w2 _ _).mono (k1.trans (b2.mono k1.size)).size); have D2 := hide_ ((AB.at0 w2 28 [.int .i64 0, .int .i64 4294967293, .int .i64 128, .int .i64 0, .int .i64 0, .int .i64 0, .bool false, .int .u64 0, .int .u64 0, .int .u64 0, .int .u64 0]).alloc (.cells #[.bool false, .int .i64 0, .int .i64 0] 40)); have E2 := hide_ (AB.at1 w2 (.cells #[.int .i64 0, .int .i64 4294967293, .int .i64 128, .int .i64 0, .int .i64 0, .int .i64 0, .bool false, .int .u64 0, .int .u64 0, .int .u64 0, .int .u64 0] 28) 40 [.bool false, .int .i64 0, .int .i64 0])) | (go_at_call 16; refine (q3.out _).mono ?_; rintro e w3 ⟨rfl, b3⟩; have j3 : Below ((w2.alloc (.cells #[.int .i64 0, .int .i64 4294967293, .int .i64 128, .int .i64 0, .int .i64 0, .int .i64 0, .bool false, .int .u64 0, .int .u64 0, .int .u64 0, .int .u64 0] 28)).alloc (.cells #[.bool false, .int .i64 0, .int .i64 0] 40)).heap.size ((w2.alloc (.cells #[.int .i64 0, .int .i64 4294967293, .int .i64 128, .int .i64 0, .int .i64 0, .int .i64 0, .bool false, .int .u64 0, .int .u64 0, .int .u64 0, .int .u64 0] 28)).alloc (.cells #[.bool false, .int .i64 0, .int .i64 0] 40)) ((w3.alloc (.cells #[.int .i64 0, .int .i64 0, .int .i64 0, .int .i64 0, .int .i64 0, .int .i64 0, .bool false, .int .u64 0, .int .u64 0, .int .u64 0, .int .u64 0] 28)).alloc (.cells #[.bool true, .int .i64 2, .int .i64 1] 40)) := b3.trans ((below2 w3 _ _).mono b3.size); have k3 := k2.trans (j3.mono k2.size); obtain ⟨a0, a1, a2, a3, a4, a5, a6, a7, a8, a9, a10, -⟩ := (A0.out.later k3).eleven; obtain ⟨d0, d1, d2, d3, d4, d5, d6, d7, d8, d9, d10, -⟩ := (D2.out.later j3).eleven; obtain ⟨e0, e1, e2, -⟩ := (E2.out.later j3).three; have G3 := hide_ (AB.at1 w3 (.cells #[.int .i64 0, .int .i64 0, .int .i64 0, .int .i64 0, .int .i64 0, .int .i64 0, .bool false, .int .u64 0, .int .u64 0, .int .u64 0, .int .u64 0] 28) 40 [.bool true, .int .i64 2, .int .i64 1]); obtain ⟨f0, f1, f2, -⟩ := G3.out.three) | (go_at_call 9; refine (q4.out _).mono ?_; rintro e w4 ⟨rfl, b4⟩; have j4 := j3.trans (b4.mono j3.size); have k4 := k3.trans (b4.mono k3.size); obtain ⟨aa0, aa1, aa2, aa3, aa4, aa5, aa6, aa7, aa8, aa9, aa10, -⟩ := (A0.out.later k4).eleven; obtain ⟨dd0, dd1, dd2, dd3, dd4, dd5, dd6, dd7, dd8, dd9, dd10, -⟩ := (D2.out.later j4).eleven) | (go_at_call 13; refine (q5.out _).mono ?_; rintro e w5 ⟨rfl, b5⟩; have k5 := k4.trans (b5.mono k4.size)) | (go_at_call_of 11 (Value.int IntKind.i64 2); refine (q6.out _).mono ?_; rintro e w' ⟨rfl, rfl⟩) | (go_at_call 11; refine (q7.out _).mono ?_; rintro e w' ⟨rfl, rfl⟩))
  go_ret
  exact ⟨rfl, B0.out.trans (k5.mono B0.out.size)⟩

set_option maxRecDepth 100000 in
set_option maxHeartbeats 4000000 in
theorem adecodes_w (v : Value) (k p x q y f : Int) (m : Bool) (a b c d : Nat) (nn : Int) (i : Bool) (tt cc : Int) (w : World) (ao : Option Addr) (ln cap : Nat) (hv : v = .slice ao ln cap) (hln : ln ≤ 9223372036854775807)
    (qp : ∀ W, Below w.heap.size w W → Calls Try.prog 16 #[v] W fun e w' => e = .returned (.tuple #[.agg #[.int .i64 k, .int .i64 p, .int .i64 x, .int .i64 q, .int .i64 y, .int .i64 f, .bool m, .int .u64 (a : Int), .int .u64 (b : Int), .int .u64 (c : Int), .int .u64 (d : Int)], .int .i64 nn, .agg #[.bool i, .int .i64 tt, .int .i64 cc]]) ∧ Below W.heap.size W w')
    (qr : ∀ W, Below w.heap.size w W → Calls Try.prog 17 #[v] W fun e w' => e = .returned (.tuple #[.agg #[.int .i64 k, .int .i64 p, .int .i64 x, .int .i64 q, .int .i64 y, .int .i64 f, .bool m, .int .u64 (a : Int), .int .u64 (b : Int), .int .u64 (c : Int), .int .u64 (d : Int)], .int .i64 nn, .agg #[.bool i, .int .i64 tt, .int .i64 cc]]) ∧ Below W.heap.size W w') :
    Calls Try.prog 4 #[v] w fun e w' => e = .returned (.bool true) ∧ Below w.heap.size w w' := by
  have aw := hide_ (fun w => awake12_any w)
  have qp := hide_ qp
  have qr := hide_ qr
  subst hv
  by_cases h : 70000 < ln
  · have h' : (70000 : Int) < (ln : Int) := by omega
    go_enter Try.func4, Try.ntmps4
    go_wp2_with (go_at_call 15; refine (aw.out _).mono ?_; rintro e w1 ⟨rfl, b1⟩)
    go_ret
    exact ⟨rfl, b1⟩
  · have h' : ¬ (70000 : Int) < (ln : Int) := by omega
    go_enter Try.func4, Try.ntmps4
    go_wp2_with (first | (go_at_call 16; refine (qp.out _ (Below.refl _ _)).mono ?_; rintro e w1 ⟨rfl, b1⟩; have k1 : Below w.heap.size w ((w1.alloc (.cells #[.int .i64 k, .int .i64 p, .int .i64 x, .int .i64 q, .int .i64 y, .int .i64 f, .bool m, .int .u64 (a : Int), .int .u64 (b : Int), .int .u64 (c : Int), .int .u64 (d : Int)] 28)).alloc (.cells #[.bool i, .int .i64 tt, .int .i64 cc] 40)) := b1.trans ((below2 w1 _ _).mono b1.size); have D1 := hide_ ((AB.at0 w1 28 [.int .i64 k, .int .i64 p, .int .i64 x, .int .i64 q, .int .i64 y, .int .i64 f, .bool m, .int .u64 (a : Int), .int .u64 (b : Int), .int .u64 (c : Int), .int .u64 (d : Int)]).alloc (.cells #[.bool i, .int .i64 tt, .int .i64 cc] 40)); have E1 := hide_ (AB.at1 w1 (.cells #[.int .i64 k, .int .i64 p, .int .i64 x, .int .i64 q, .int .i64 y, .int .i64 f, .bool m, .int .u64 (a : Int), .int .u64 (b : Int), .int .u64 (c : Int), .int .u64 (d : Int)] 28) 40 [.bool i, .int .i64 tt, .int .i64 cc])) | (go_at_call 17; refine (qr.out _ k1).mono ?_; rintro e w2 ⟨rfl, b2⟩; have j2 : Below ((w1.alloc (.cells #[.int .i64 k, .int .i64 p, .int .i64 x, .int .i64 q, .int .i64 y, .int .i64 f, .bool m, .int .u64 (a : Int), .int .u64 (b : Int), .int .u64 (c : Int), .int .u64 (d : Int)] 28)).alloc (.cells #[.bool i, .int .i64 tt, .int .i64 cc] 40)).heap.size ((w1.alloc (.cells #[.int .i64 k, .int .i64 p, .int .i64 x, .int .i64 q, .int .i64 y, .int .i64 f, .bool m, .int .u64 (a : Int), .int .u64 (b : Int), .int .u64 (c : Int), .int .u64 (d : Int)] 28)).alloc (.cells #[.bool i, .int .i64 tt, .int .i64 cc] 40)) ((w2.alloc (.cells #[.int .i64 k, .int .i64 p, .int .i64 x, .int .i64 q, .int .i64 y, .int .i64 f, .bool m, .int .u64 (a : Int), .int .u64 (b : Int), .int .u64 (c : Int), .int .u64 (d : Int)] 28)).alloc (.cells #[.bool i, .int .i64 tt, .int .i64 cc] 40)) := b2.trans ((below2 w2 _ _).mono b2.size); have k2 := k1.trans (j2.mono k1.size); obtain ⟨d0, d1, d2, d3, d4, d5, d6, d7, d8, d9, d10, -⟩ := (D1.out.later j2).eleven; obtain ⟨e0, e1, e2, -⟩ := (E1.out.later j2).three; have D2 := hide_ ((AB.at0 w2 28 [.int .i64 k, .int .i64 p, .int .i64 x, .int .i64 q, .int .i64 y, .int .i64 f, .bool m, .int .u64 (a : Int), .int .u64 (b : Int), .int .u64 (c : Int), .int .u64 (d : Int)]).alloc (.cells #[.bool i, .int .i64 tt, .int .i64 cc] 40)); have E2 := hide_ (AB.at1 w2 (.cells #[.int .i64 k, .int .i64 p, .int .i64 x, .int .i64 q, .int .i64 y, .int .i64 f, .bool m, .int .u64 (a : Int), .int .u64 (b : Int), .int .u64 (c : Int), .int .u64 (d : Int)] 28) 40 [.bool i, .int .i64 tt, .int .i64 cc]); obtain ⟨f0, f1, f2, f3, f4, f5, f6, f7, f8, f9, f10, -⟩ := D2.out.eleven; obtain ⟨g0, g1, g2, -⟩ := E2.out.three) | (go_at_call 15; refine (aw.out _).mono ?_; rintro e w3 ⟨rfl, b3⟩))
    go_ret
    exact ⟨rfl, k2.trans (b3.mono k2.size)⟩

theorem actionDecodes_walk (v : Value) (l : List Int) (w : World) (hB : Bytes w v l) :
    Calls Try.prog 4 #[v] w fun e w' => e = .returned (.bool true) ∧ Below w.heap.size w w' := by
  have hm := hB
  obtain ⟨ao, cap, e, h1, h2, h3, -⟩ := hm
  unfold maxLen at h2
  rcases adec_all h3 with ⟨c, ha, hr⟩ | ⟨k, p, x, q, y, f, m, a, b, c, d, n, ha, hr, -⟩
  · exact adecodes_w v 0 0 0 0 0 0 false 0 0 0 0 0 true 2 c w ao _ cap e (by omega) (fun W hW => ha v W (hB.later hW)) (fun W hW => hr v W (hB.later hW))
  · exact adecodes_w v k p x q y f m a b c d n false 0 0 w ao _ cap e (by omega) (fun W hW => ha v W (hB.later hW)) (fun W hW => hr v W (hB.later hW))
end

end Go.Proofs.Ytpopjgplbhnbnaa
