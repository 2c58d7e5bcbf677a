import Derived.Test.YtkhpbkdblhcepaaOkd
import Derived.Deep.RegionHeld3
import Derived.Deep.RegionWith
import Derived.Deep.MidRow
import Derived.Deep.Cut
namespace Go.Proofs.Ytkhpbkdblhcepaa
open Go Go.RowKit
set_option linter.unusedVariables false
set_option linter.unusedSimpArgs false

set_option maxRecDepth 100000 in
set_option maxHeartbeats 4000000 in
theorem readBody_0 (f : Int) (v : Value) (l : List Int) (w : World) (hB : Bytes w v l) (hs : fsize f ≤ l.length) :
    Calls Try.prog 155 #[ov f false 0 0 0 0, v] w fun e w' => e = .returned (ov f false (bodyA l f false).1 (bodyA l f false).2.1 (bodyA l f false).2.2.1 (bodyA l f false).2.2.2) ∧ Below w.heap.size w w' := by
  obtain ⟨ao, cap, rfl, hc1, hc2, hiB, hnone, hcell⟩ := hB
  have hB : Bytes w (.slice ao l.length cap) l := ⟨ao, cap, rfl, hc1, hc2, hiB, hnone, hcell⟩
  clear hnone hcell hiB
  have A0 := hide_ ((AB.at0 w 63 [.int .i64 f, .bool false, .int .u64 (0 : Int), .int .u64 (0 : Int), .int .u64 (0 : Int), .int .u64 (0 : Int)]).alloc (.cells #[.int .i64 0, .bool false, .int .u64 0, .int .u64 0, .int .u64 0, .int .u64 0] 63))
  have Z0 := hide_ (AB.at1 w (.cells #[.int .i64 f, .bool false, .int .u64 (0 : Int), .int .u64 (0 : Int), .int .u64 (0 : Int), .int .u64 (0 : Int)] 63) 63 [.int .i64 0, .bool false, .int .u64 0, .int .u64 0, .int .u64 0, .int .u64 0])
  have B0 := hide_ (below2 w (.cells #[.int .i64 f, .bool false, .int .u64 (0 : Int), .int .u64 (0 : Int), .int .u64 (0 : Int), .int .u64 (0 : Int)] 63) (.cells #[.int .i64 0, .bool false, .int .u64 0, .int .u64 0, .int .u64 0, .int .u64 0] 63))
  have q1 := hide_ (fun w => fsize_any f w)
  have p1 : Hid (∀ W, Below ((w.alloc (.cells #[.int .i64 f, .bool false, .int .u64 (0 : Int), .int .u64 (0 : Int), .int .u64 (0 : Int), .int .u64 (0 : Int)] 63)).alloc (.cells #[.int .i64 0, .bool false, .int .u64 0, .int .u64 0, .int .u64 0, .int .u64 0] 63)).heap.size ((w.alloc (.cells #[.int .i64 f, .bool false, .int .u64 (0 : Int), .int .u64 (0 : Int), .int .u64 (0 : Int), .int .u64 (0 : Int)] 63)).alloc (.cells #[.int .i64 0, .bool false, .int .u64 0, .int .u64 0, .int .u64 0, .int .u64 0] 63)) W → Calls Try.prog 98 #[.slice ao l.length cap, .int .i64 (fsize f : Nat)] W fun e W' => e = .returned (.tuple #[.agg #[.int .u64 (gx l (fsize f : Int) : Nat), .int .u64 (gy l (fsize f : Int) : Nat)], .bool (gok l (fsize f : Int))]) ∧ Below W.heap.size W W') := hide_ (fun W hW => wget_any _ l (fsize f : Int) W ((hB.later B0.out).later hW))
  obtain ⟨ao', hsl1, hsl, hB2⟩ := bytes_slice hB (fsize f) hs
  have p2 : Hid (∀ W, Below w.heap.size w W → Calls Try.prog 98 #[.slice ao' (l.length - fsize f) (cap - fsize f), .int .i64 (fsize f : Nat)] W fun e W' => e = .returned (.tuple #[.agg #[.int .u64 (gx (l.drop (fsize f)) (fsize f : Int) : Nat), .int .u64 (gy (l.drop (fsize f)) (fsize f : Int) : Nat)], .bool (gok (l.drop (fsize f)) (fsize f : Int))]) ∧ Below W.heap.size W W') := hide_ (fun W hW => wget_any _ (l.drop (fsize f)) (fsize f : Int) W (hB2.later hW))
  unfold bodyA
  dsimp only
  generalize gx l (fsize f : Int) = x at *
  generalize gy l (fsize f : Int) = y at *
  generalize gx (l.drop (fsize f)) (fsize f : Int) = x2 at *
  generalize gy (l.drop (fsize f)) (fsize f : Int) = y2 at *
  generalize gok l (fsize f : Int) = o1 at *
  generalize gok (l.drop (fsize f)) (fsize f : Int) = o2 at *
  clear hB hB2 hsl1
  generalize fsize f = s at *
  generalize l.length = n at *
  obtain ⟨y0, y1, y2', y3, y4, y5, -⟩ := A0.out.six
  unfold ov
  go_enter Try.func155, Try.ntmps155
  go_wp2_with (first | (go_at_call 145; refine (q1.out _).mono ?_; rintro e w1 ⟨rfl, k1⟩; obtain ⟨d0, d1, d2, d3, d4, d5, -⟩ := (A0.out.later k1).six) | (go_at_call_of 98 (Value.slice ao n cap); refine (p1.out _ k1).mono ?_; rintro e w2 ⟨rfl, b2⟩; have k2 := k1.trans (b2.mono k1.size); obtain ⟨s0, s1, s2, s3, s4, s5, s6, s7, s8, s9, s10, s11⟩ := (A0.out.later k2).six; have AM := hide_ (((A0.out.later k2).set (j := 2) (.int .u64 (x : Int))).set (j := 3) (.int .u64 (y : Int))); obtain ⟨m0, m1, m2, m3, m4, m5, m6, m7, m8, m9, m10, m11⟩ := AM.out.six; have ZM := hide_ (((Z0.out.later k2).far (f := w.heap.size) (o := 2) (.int .u64 (x : Int)) (by omega)).far (f := w.heap.size) (o := 3) (.int .u64 (y : Int)) (by omega)); obtain ⟨t0, t1, t2, t3, t4, t5, t6, t7, t8, t9, t10, t11⟩ := ZM.out.six; have BM := ((B0.out.trans (k2.mono B0.out.size)).setCell (p := ⟨w.heap.size, 2, none⟩) (Nat.le_refl _) (.int .u64 (x : Int))).setCell (p := ⟨w.heap.size, 3, none⟩) (Nat.le_refl _) (.int .u64 (y : Int))))
  have ZF := ZM.out.set6 (.int .i64 f) (.bool false) (.int .u64 (x : Int)) (.int .u64 (y : Int)) (.int .u64 (0 : Int)) (.int .u64 (0 : Int))
  obtain ⟨h0, h1, h2, h3, h4, h5, -⟩ := ZF.six
  exact bodyPost_ret (v := .agg #[.int .i64 f, .bool false, .int .u64 (x : Int), .int .u64 (y : Int), .int .u64 (0 : Int), .int .u64 (0 : Int)]) (by simp [results, Try.results155, go_sem, h0, h1, h2, h3, h4, h5]) rfl ⟨rfl, below_set6 (g := (w.heap.size + 1)) BM (by omega) _ _ _ _ _ _⟩

set_option maxRecDepth 100000 in
set_option maxHeartbeats 4000000 in
theorem readBody_1 (f : Int) (v : Value) (l : List Int) (w : World) (hB : Bytes w v l) (hs : fsize f ≤ l.length) :
    Calls Try.prog 155 #[ov f true 0 0 0 0, v] w fun e w' => e = .returned (ov f true (bodyA l f true).1 (bodyA l f true).2.1 (bodyA l f true).2.2.1 (bodyA l f true).2.2.2) ∧ Below w.heap.size w w' := by
  obtain ⟨ao, cap, rfl, hc1, hc2, hiB, hnone, hcell⟩ := hB
  have hB : Bytes w (.slice ao l.length cap) l := ⟨ao, cap, rfl, hc1, hc2, hiB, hnone, hcell⟩
  clear hnone hcell hiB
  have A0 := hide_ ((AB.at0 w 63 [.int .i64 f, .bool true, .int .u64 (0 : Int), .int .u64 (0 : Int), .int .u64 (0 : Int), .int .u64 (0 : Int)]).alloc (.cells #[.int .i64 0, .bool false, .int .u64 0, .int .u64 0, .int .u64 0, .int .u64 0] 63))
  have Z0 := hide_ (AB.at1 w (.cells #[.int .i64 f, .bool true, .int .u64 (0 : Int), .int .u64 (0 : Int), .int .u64 (0 : Int), .int .u64 (0 : Int)] 63) 63 [.int .i64 0, .bool false, .int .u64 0, .int .u64 0, .int .u64 0, .int .u64 0])
  have B0 := hide_ (below2 w (.cells #[.int .i64 f, .bool true, .int .u64 (0 : Int), .int .u64 (0 : Int), .int .u64 (0 : Int), .int .u64 (0 : Int)] 63) (.cells #[.int .i64 0, .bool false, .int .u64 0, .int .u64 0, .int .u64 0, .int .u64 0] 63))
  have q1 := hide_ (fun w => fsize_any f w)
  have p1 : Hid (∀ W, Below ((w.alloc (.cells #[.int .i64 f, .bool true, .int .u64 (0 : Int), .int .u64 (0 : Int), .int .u64 (0 : Int), .int .u64 (0 : Int)] 63)).alloc (.cells #[.int .i64 0, .bool false, .int .u64 0, .int .u64 0, .int .u64 0, .int .u64 0] 63)).heap.size ((w.alloc (.cells #[.int .i64 f, .bool true, .int .u64 (0 : Int), .int .u64 (0 : Int), .int .u64 (0 : Int), .int .u64 (0 : Int)] 63)).alloc (.cells #[.int .i64 0, .bool false, .int .u64 0, .int .u64 0, .int .u64 0, .int .u64 0] 63)) W → Calls Try.prog 98 #[.slice ao l.length cap, .int .i64 (fsize f : Nat)] W fun e W' => e = .returned (.tuple #[.agg #[.int .u64 (gx l (fsize f : Int) : Nat), .int .u64 (gy l (fsize f : Int) : Nat)], .bool (gok l (fsize f : Int))]) ∧ Below W.heap.size W W') := hide_ (fun W hW => wget_any _ l (fsize f : Int) W ((hB.later B0.out).later hW))
  obtain ⟨ao', hsl1, hsl, hB2⟩ := bytes_slice hB (fsize f) hs
  have p2 : Hid (∀ W, Below w.heap.size w W → Calls Try.prog 98 #[.slice ao' (l.length - fsize f) (cap - fsize f), .int .i64 (fsize f : Nat)] W fun e W' => e = .returned (.tuple #[.agg #[.int .u64 (gx (l.drop (fsize f)) (fsize f : Int) : Nat), .int .u64 (gy (l.drop (fsize f)) (fsize f : Int) : Nat)], .bool (gok (l.drop (fsize f)) (fsize f : Int))]) ∧ Below W.heap.size W W') := hide_ (fun W hW => wget_any _ (l.drop (fsize f)) (fsize f : Int) W (hB2.later hW))
  unfold bodyA
  dsimp only
  generalize gx l (fsize f : Int) = x at *
  generalize gy l (fsize f : Int) = y at *
  generalize gx (l.drop (fsize f)) (fsize f : Int) = x2 at *
  generalize gy (l.drop (fsize f)) (fsize f : Int) = y2 at *
  generalize gok l (fsize f : Int) = o1 at *
  generalize gok (l.drop (fsize f)) (fsize f : Int) = o2 at *
  clear hB hB2 hsl1
  generalize fsize f = s at *
  generalize l.length = n at *
  obtain ⟨y0, y1, y2', y3, y4, y5, -⟩ := A0.out.six
  unfold ov
  go_enter Try.func155, Try.ntmps155
  go_wp2_with (first | (go_at_call 145; refine (q1.out _).mono ?_; rintro e w1 ⟨rfl, k1⟩; obtain ⟨d0, d1, d2, d3, d4, d5, -⟩ := (A0.out.later k1).six) | (go_at_call_of 98 (Value.slice ao n cap); refine (p1.out _ k1).mono ?_; rintro e w2 ⟨rfl, b2⟩; have k2 := k1.trans (b2.mono k1.size); obtain ⟨s0, s1, s2, s3, s4, s5, s6, s7, s8, s9, s10, s11⟩ := (A0.out.later k2).six; have AM := hide_ (((A0.out.later k2).set (j := 2) (.int .u64 (x : Int))).set (j := 3) (.int .u64 (y : Int))); obtain ⟨m0, m1, m2, m3, m4, m5, m6, m7, m8, m9, m10, m11⟩ := AM.out.six; have ZM := hide_ (((Z0.out.later k2).far (f := w.heap.size) (o := 2) (.int .u64 (x : Int)) (by omega)).far (f := w.heap.size) (o := 3) (.int .u64 (y : Int)) (by omega)); obtain ⟨t0, t1, t2, t3, t4, t5, t6, t7, t8, t9, t10, t11⟩ := ZM.out.six; have BM := ((B0.out.trans (k2.mono B0.out.size)).setCell (p := ⟨w.heap.size, 2, none⟩) (Nat.le_refl _) (.int .u64 (x : Int))).setCell (p := ⟨w.heap.size, 3, none⟩) (Nat.le_refl _) (.int .u64 (y : Int))) | (go_at_call 98; refine (p2.out _ BM).mono ?_; rintro e w3 ⟨rfl, b3⟩; obtain ⟨q0, q1', q2, q3, q4, q5, q6, q7, q8, q9, q10, q11⟩ := (AM.out.later b3).six; have AE := hide_ (((AM.out.later b3).set (j := 4) (.int .u64 (x2 : Int))).set (j := 5) (.int .u64 (y2 : Int))); obtain ⟨e0, e1, e2, e3, e4, e5, -⟩ := AE.out.six; have ZE := hide_ (((ZM.out.later b3).far (f := w.heap.size) (o := 4) (.int .u64 (x2 : Int)) (by omega)).far (f := w.heap.size) (o := 5) (.int .u64 (y2 : Int)) (by omega)); obtain ⟨c0, c1, c2, c3, c4, c5, c6, c7, c8, c9, c10, c11⟩ := ZE.out.six; have BE := ((BM.trans (b3.mono BM.size)).setCell (p := ⟨w.heap.size, 4, none⟩) (Nat.le_refl _) (.int .u64 (x2 : Int))).setCell (p := ⟨w.heap.size, 5, none⟩) (Nat.le_refl _) (.int .u64 (y2 : Int))))
  have ZF := ZE.out.set6 (.int .i64 f) (.bool true) (.int .u64 (x : Int)) (.int .u64 (y : Int)) (.int .u64 (x2 : Int)) (.int .u64 (y2 : Int))
  obtain ⟨h0, h1, h2, h3, h4, h5, -⟩ := ZF.six
  exact bodyPost_ret (v := .agg #[.int .i64 f, .bool true, .int .u64 (x : Int), .int .u64 (y : Int), .int .u64 (x2 : Int), .int .u64 (y2 : Int)]) (by simp [results, Try.results155, go_sem, h0, h1, h2, h3, h4, h5]) rfl ⟨rfl, below_set6 (g := (w.heap.size + 1)) BE (by omega) _ _ _ _ _ _⟩


end Go.Proofs.Ytkhpbkdblhcepaa

