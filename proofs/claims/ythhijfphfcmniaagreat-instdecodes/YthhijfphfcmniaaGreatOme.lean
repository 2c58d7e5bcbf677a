import Derived.Test.YthhijfphfcmniaaGreatOke
import Derived.Test.YthhijfphfcmniaaGreatOae
import Derived.Deep.RegionHeld3
import Derived.Deep.RegionWith
import Derived.Deep.MidRow
import Derived.Deep.Cut
set_option maxRecDepth 100000
set_option maxHeartbeats 8000000
set_option linter.unusedVariables false
set_option linter.unusedSimpArgs false
namespace Go.Proofs.YthhijfphfcmniaaGreat
open Go Go.RowKit
theorem readBody_0 (f : Int) (v : Value) (l : List Int) (w : World) (hB : Bytes w v l) (hs : fsize f ≤ l.length) :
    Calls Tryz.prog 178 #[ov f false 0 0 0 0, v] w fun e w' => e = .returned (ov f false (bodyA l f false).1 (bodyA l f false).2.1 (bodyA l f false).2.2.1 (bodyA l f false).2.2.2) ∧ Below w.heap.size w w' := by
  obtain ⟨ao, cap, rfl, hc1, hc2, hiB, hnone, hcell⟩ := hB
  have hB : Bytes w (.slice ao l.length cap) l := ⟨ao, cap, rfl, hc1, hc2, hiB, hnone, hcell⟩
  clear hnone hcell hiB
  have A0 := h_ ((AB.at0 w 59 [.int .i64 f, .bool false, .int .u64 (0 : Int), .int .u64 (0 : Int), .int .u64 (0 : Int), .int .u64 (0 : Int)]).alloc (.cells #[.int .i64 0, .bool false, .int .u64 0, .int .u64 0, .int .u64 0, .int .u64 0] 59))
  have Z0 := h_ (AB.at1 w (.cells #[.int .i64 f, .bool false, .int .u64 (0 : Int), .int .u64 (0 : Int), .int .u64 (0 : Int), .int .u64 (0 : Int)] 59) 59 [.int .i64 0, .bool false, .int .u64 0, .int .u64 0, .int .u64 0, .int .u64 0])
  have B0 := h_ (below2 w (.cells #[.int .i64 f, .bool false, .int .u64 (0 : Int), .int .u64 (0 : Int), .int .u64 (0 : Int), .int .u64 (0 : Int)] 59) (.cells #[.int .i64 0, .bool false, .int .u64 0, .int .u64 0, .int .u64 0, .int .u64 0] 59))
  have q1 := h_ (fun w => fsize_any f w)
  have p1 : Hid (∀ W, Below ((w.alloc (.cells #[.int .i64 f, .bool false, .int .u64 (0 : Int), .int .u64 (0 : Int), .int .u64 (0 : Int), .int .u64 (0 : Int)] 59)).alloc (.cells #[.int .i64 0, .bool false, .int .u64 0, .int .u64 0, .int .u64 0, .int .u64 0] 59)).heap.size ((w.alloc (.cells #[.int .i64 f, .bool false, .int .u64 (0 : Int), .int .u64 (0 : Int), .int .u64 (0 : Int), .int .u64 (0 : Int)] 59)).alloc (.cells #[.int .i64 0, .bool false, .int .u64 0, .int .u64 0, .int .u64 0, .int .u64 0] 59)) W → Calls Tryz.prog 92 #[.slice ao l.length cap, .int .i64 (fsize f : Nat)] W fun e W' => e = .returned (.tuple #[.agg #[.int .u64 (gx l (fsize f : Int) : Nat), .int .u64 (gy l (fsize f : Int) : Nat)], .bool (gok l (fsize f : Int))]) ∧ Below W.heap.size W W') := h_ (fun W hW => wget_any _ l (fsize f : Int) W ((hB.later B0.out).later hW))
  obtain ⟨ao', hsl1, hsl, hB2⟩ := bytes_slice hB (fsize f) hs
  have p2 : Hid (∀ W, Below w.heap.size w W → Calls Tryz.prog 92 #[.slice ao' (l.length - fsize f) (cap - fsize f), .int .i64 (fsize f : Nat)] W fun e W' => e = .returned (.tuple #[.agg #[.int .u64 (gx (l.drop (fsize f)) (fsize f : Int) : Nat), .int .u64 (gy (l.drop (fsize f)) (fsize f : Int) : Nat)], .bool (gok (l.drop (fsize f)) (fsize f : Int))]) ∧ Below W.heap.size W W') := h_ (fun W hW => wget_any _ (l.drop (fsize f)) (fsize f : Int) W (hB2.later hW))
  unfold bodyA
  dsimp only
  generalize gx l (fsize f : Int) = x at *
  generalize gy l (fsize f : Int) = y at *
  generalize gx (l.drop (fsize f)) (fsize f : Int) = x2 at *
  generalize gy (l.drop (fsize f)) (fsize f : Int) = y2 at *
  generalize gok l (fsize f : Int) = o1 at *
  generalize gok (l.drop (fsize f)) (fsize f : Int) = o2 at *
  clear hB hB2 hsl1
  generalize fsize f = s at *
  generalize l.length = n at *
  obtain ⟨y0, y1, y2', y3, y4, y5, -⟩ := A0.out.six
  unfold ov
  go_enter Tryz.func178, Tryz.ntmps178
  go_wp2_with (first | (go_at_call 165; refine (q1.out _).mono ?_; rintro e w1 ⟨rfl, k1⟩; obtain ⟨d0, d1, d2, d3, d4, d5, -⟩ := (A0.out.later k1).six) | (go_at_call_of 92 (Value.slice ao n cap); refine (p1.out _ k1).mono ?_; rintro e w2 ⟨rfl, b2⟩; have k2 := k1.trans (b2.mono k1.size); obtain ⟨s0, s1, s2, s3, s4, s5, s6, s7, s8, s9, s10, s11⟩ := (A0.out.later k2).six; have AM := h_ (((A0.out.later k2).set (j := 2) (.int .u64 (x : Int))).set (j := 3) (.int .u64 (y : Int))); obtain ⟨m0, m1, m2, m3, m4, m5, m6, m7, m8, m9, m10, m11⟩ := AM.out.six; have ZM := h_ (((Z0.out.later k2).far (f := w.heap.size) (o := 2) (.int .u64 (x : Int)) (by omega)).far (f := w.heap.size) (o := 3) (.int .u64 (y : Int)) (by omega)); obtain ⟨t0, t1, t2, t3, t4, t5, t6, t7, t8, t9, t10, t11⟩ := ZM.out.six; have BM := ((B0.out.trans (k2.mono B0.out.size)).setCell (p := ⟨w.heap.size, 2, none⟩) (Nat.le_refl _) (.int .u64 (x : Int))).setCell (p := ⟨w.heap.size, 3, none⟩) (Nat.le_refl _) (.int .u64 (y : Int))))
  have ZF := ZM.out.set6 (.int .i64 f) (.bool false) (.int .u64 (x : Int)) (.int .u64 (y : Int)) (.int .u64 (0 : Int)) (.int .u64 (0 : Int))
  obtain ⟨h0, h1, h2, h3, h4, h5, -⟩ := ZF.six
  exact bodyPost_ret (v := .agg #[.int .i64 f, .bool false, .int .u64 (x : Int), .int .u64 (y : Int), .int .u64 (0 : Int), .int .u64 (0 : Int)]) (by simp [results, Tryz.results178, go_sem, h0, h1, h2, h3, h4, h5]) rfl ⟨rfl, below_set6 (g := (w.heap.size + 1)) BM (by omega) _ _ _ _ _ _⟩
theorem readBody_1 (f : Int) (v : Value) (l : List Int) (w : World) (hB : Bytes w v l) (hs : fsize f ≤ l.length) :
    Calls Tryz.prog 178 #[ov f true 0 0 0 0, v] w fun e w' => e = .returned (ov f true (bodyA l f true).1 (bodyA l f true).2.1 (bodyA l f true).2.2.1 (bodyA l f true).2.2.2) ∧ Below w.heap.size w w' := by
  obtain ⟨ao, cap, rfl, hc1, hc2, hiB, hnone, hcell⟩ := hB
  have hB : Bytes w (.slice ao l.length cap) l := ⟨ao, cap, rfl, hc1, hc2, hiB, hnone, hcell⟩
  clear hnone hcell hiB
  have A0 := h_ ((AB.at0 w 59 [.int .i64 f, .bool true, .int .u64 (0 : Int), .int .u64 (0 : Int), .int .u64 (0 : Int), .int .u64 (0 : Int)]).alloc (.cells #[.int .i64 0, .bool false, .int .u64 0, .int .u64 0, .int .u64 0, .int .u64 0] 59))
  have Z0 := h_ (AB.at1 w (.cells #[.int .i64 f, .bool true, .int .u64 (0 : Int), .int .u64 (0 : Int), .int .u64 (0 : Int), .int .u64 (0 : Int)] 59) 59 [.int .i64 0, .bool false, .int .u64 0, .int .u64 0, .int .u64 0, .int .u64 0])
  have B0 := h_ (below2 w (.cells #[.int .i64 f, .bool true, .int .u64 (0 : Int), .int .u64 (0 : Int), .int .u64 (0 : Int), .int .u64 (0 : Int)] 59) (.cells #[.int .i64 0, .bool false, .int .u64 0, .int .u64 0, .int .u64 0, .int .u64 0] 59))
  have q1 := h_ (fun w => fsize_any f w)
  have p1 : Hid (∀ W, Below ((w.alloc (.cells #[.int .i64 f, .bool true, .int .u64 (0 : Int), .int .u64 (0 : Int), .int .u64 (0 : Int), .int .u64 (0 : Int)] 59)).alloc (.cells #[.int .i64 0, .bool false, .int .u64 0, .int .u64 0, .int .u64 0, .int .u64 0] 59)).heap.size ((w.alloc (.cells #[.int .i64 f, .bool true, .int .u64 (0 : Int), .int .u64 (0 : Int), .int .u64 (0 : Int), .int .u64 (0 : Int)] 59)).alloc (.cells #[.int .i64 0, .bool false, .int .u64 0, .int .u64 0, .int .u64 0, .int .u64 0] 59)) W → Calls Tryz.prog 92 #[.slice ao l.length cap, .int .i64 (fsize f : Nat)] W fun e W' => e = .returned (.tuple #[.agg #[.int .u64 (gx l (fsize f : Int) : Nat), .int .u64 (gy l (fsize f : Int) : Nat)], .bool (gok l (fsize f : Int))]) ∧ Below W.heap.size W W') := h_ (fun W hW => wget_any _ l (fsize f : Int) W ((hB.later B0.out).later hW))
  obtain ⟨ao', hsl1, hsl, hB2⟩ := bytes_slice hB (fsize f) hs
  have p2 : Hid (∀ W, Below w.heap.size w W → Calls Tryz.prog 92 #[.slice ao' (l.length - fsize f) (cap - fsize f), .int .i64 (fsize f : Nat)] W fun e W' => e = .returned (.tuple #[.agg #[.int .u64 (gx (l.drop (fsize f)) (fsize f : Int) : Nat), .int .u64 (gy (l.drop (fsize f)) (fsize f : Int) : Nat)], .bool (gok (l.drop (fsize f)) (fsize f : Int))]) ∧ Below W.heap.size W W') := h_ (fun W hW => wget_any _ (l.drop (fsize f)) (fsize f : Int) W (hB2.later hW))
  unfold bodyA
  dsimp only
  generalize gx l (fsize f : Int) = x at *
  generalize gy l (fsize f : Int) = y at *
  generalize gx (l.drop (fsize f)) (fsize f : Int) = x2 at *
  generalize gy (l.drop (fsize f)) (fsize f : Int) = y2 at *
  generalize gok l (fsize f : Int) = o1 at *
  generalize gok (l.drop (fsize f)) (fsize f : Int) = o2 at *
  clear hB hB2 hsl1
  generalize fsize f = s at *
  generalize l.length = n at *
  obtain ⟨y0, y1, y2', y3, y4, y5, -⟩ := A0.out.six
  unfold ov
  go_enter Tryz.func178, Tryz.ntmps178
  go_wp2_with (first | (go_at_call 165; refine (q1.out _).mono ?_; rintro e w1 ⟨rfl, k1⟩; obtain ⟨d0, d1, d2, d3, d4, d5, -⟩ := (A0.out.later k1).six) | (go_at_call_of 92 (Value.slice ao n cap); refine (p1.out _ k1).mono ?_; rintro e w2 ⟨rfl, b2⟩; have k2 := k1.trans (b2.mono k1.size); obtain ⟨s0, s1, s2, s3, s4, s5, s6, s7, s8, s9, s10, s11⟩ := (A0.out.later k2).six; have AM := h_ (((A0.out.later k2).set (j := 2) (.int .u64 (x : Int))).set (j := 3) (.int .u64 (y : Int))); obtain ⟨m0, m1, m2, m3, m4, m5, m6, m7, m8, m9, m10, m11⟩ := AM.out.six; have ZM := h_ (((Z0.out.later k2).far (f := w.heap.size) (o := 2) (.int .u64 (x : Int)) (by omega)).far (f := w.heap.size) (o := 3) (.int .u64 (y : Int)) (by omega)); obtain ⟨t0, t1, t2, t3, t4, t5, t6, t7, t8, t9, t10, t11⟩ := ZM.out.six; have BM := ((B0.out.trans (k2.mono B0.out.size)).setCell (p := ⟨w.heap.size, 2, none⟩) (Nat.le_refl _) (.int .u64 (x : Int))).setCell (p := ⟨w.heap.size, 3, none⟩) (Nat.le_refl _) (.int .u64 (y : Int))) | (go_at_call 92; refine (p2.out _ BM).mono ?_; rintro e w3 ⟨rfl, b3⟩; obtain ⟨q0, q1', q2, q3, q4, q5, q6, q7, q8, q9, q10, q11⟩ := (AM.out.later b3).six; have AE := h_ (((AM.out.later b3).set (j := 4) (.int .u64 (x2 : Int))).set (j := 5) (.int .u64 (y2 : Int))); obtain ⟨e0, e1, e2, e3, e4, e5, -⟩ := AE.out.six; have ZE := h_ (((ZM.out.later b3).far (f := w.heap.size) (o := 4) (.int .u64 (x2 : Int)) (by omega)).far (f := w.heap.size) (o := 5) (.int .u64 (y2 : Int)) (by omega)); obtain ⟨c0, c1, c2, c3, c4, c5, c6, c7, c8, c9, c10, c11⟩ := ZE.out.six; have BE := ((BM.trans (b3.mono BM.size)).setCell (p := ⟨w.heap.size, 4, none⟩) (Nat.le_refl _) (.int .u64 (x2 : Int))).setCell (p := ⟨w.heap.size, 5, none⟩) (Nat.le_refl _) (.int .u64 (y2 : Int))))
  have ZF := ZE.out.set6 (.int .i64 f) (.bool true) (.int .u64 (x : Int)) (.int .u64 (y : Int)) (.int .u64 (x2 : Int)) (.int .u64 (y2 : Int))
  obtain ⟨h0, h1, h2, h3, h4, h5, -⟩ := ZF.six
  exact bodyPost_ret (v := .agg #[.int .i64 f, .bool true, .int .u64 (x : Int), .int .u64 (y : Int), .int .u64 (x2 : Int), .int .u64 (y2 : Int)]) (by simp [results, Tryz.results178, go_sem, h0, h1, h2, h3, h4, h5]) rfl ⟨rfl, below_set6 (g := (w.heap.size + 1)) BE (by omega) _ _ _ _ _ _⟩
end Go.Proofs.YthhijfphfcmniaaGreat
namespace Go.Proofs.YthhijfphfcmniaaGreat
open Go Go.RowKit
theorem check_any (f : Int) (m : Bool) (a b c d : Nat) (w : World) (ha : a < 18446744073709551616) (hb : b < 18446744073709551616) (hc : c < 18446744073709551616) (hd : d < 18446744073709551616) :
    Calls Tryz.prog 161 #[ov f m a b c d] w fun e w' => e = .returned (fcode (chk f m a b c d)) ∧ Below w.heap.size w w' := by
  have A0 := h_ ((AB.at0 w 59 [.int .i64 f, .bool m, .int .u64 (a : Int), .int .u64 (b : Int), .int .u64 (c : Int), .int .u64 (d : Int)]).alloc (.cells #[.bool false, .int .i64 0, .int .i64 0] 44))
  have Z0 := h_ (AB.at1 w (.cells #[.int .i64 f, .bool m, .int .u64 (a : Int), .int .u64 (b : Int), .int .u64 (c : Int), .int .u64 (d : Int)] 59) 44 [.bool false, .int .i64 0, .int .i64 0])
  have B0 := h_ (below2 w (.cells #[.int .i64 f, .bool m, .int .u64 (a : Int), .int .u64 (b : Int), .int .u64 (c : Int), .int .u64 (d : Int)] 59) (.cells #[.bool false, .int .i64 0, .int .i64 0] 44))
  have p1 : Hid (∀ W, Below ((w.alloc (.cells #[.int .i64 f, .bool m, .int .u64 (a : Int), .int .u64 (b : Int), .int .u64 (c : Int), .int .u64 (d : Int)] 59)).alloc (.cells #[.bool false, .int .i64 0, .int .i64 0] 44)).heap.size ((w.alloc (.cells #[.int .i64 f, .bool m, .int .u64 (a : Int), .int .u64 (b : Int), .int .u64 (c : Int), .int .u64 (d : Int)] 59)).alloc (.cells #[.bool false, .int .i64 0, .int .i64 0] 44)) W → Calls Tryz.prog 172 #[wd a b, .pointer (some ⟨w.heap.size, 0, none⟩)] W fun e W' => e = .returned (.bool (!(wi a b (LH f) (LL f)))) ∧ Below W.heap.size W W') := h_ (fun W h => chk1_fn f w.heap.size a b W ha hb ((A0.out.later h).cell (j := 0) rfl).1)
  have p2 : Hid (∀ W, Below ((w.alloc (.cells #[.int .i64 f, .bool m, .int .u64 (a : Int), .int .u64 (b : Int), .int .u64 (c : Int), .int .u64 (d : Int)] 59)).alloc (.cells #[.bool false, .int .i64 0, .int .i64 0] 44)).heap.size ((w.alloc (.cells #[.int .i64 f, .bool m, .int .u64 (a : Int), .int .u64 (b : Int), .int .u64 (c : Int), .int .u64 (d : Int)] 59)).alloc (.cells #[.bool false, .int .i64 0, .int .i64 0] 44)) W → Calls Tryz.prog 172 #[wd c d, .pointer (some ⟨w.heap.size, 0, none⟩)] W fun e W' => e = .returned (.bool (!(wi c d (LH f) (LL f)))) ∧ Below W.heap.size W W') := h_ (fun W h => chk1_fn f w.heap.size c d W hc hd ((A0.out.later h).cell (j := 0) rfl).1)
  have q3 := h_ (fun w => owithin_any a b c d w ha hb hc hd)
  have q4 : Hid (∀ w, Calls Tryz.prog 79 #[wd c d] w fun e w' => e = .returned (.bool (zz c d)) ∧ Below w.heap.size w w') := h_ (fun w => zero_any c d w)
  have q5 := h_ (fun k w => refuse_any k w)
  unfold chk
  generalize wi a b (LH f) (LL f) = z1 at *
  generalize wi c d (LH f) (LL f) = z2 at *
  generalize wi a b c d = z4 at *
  generalize zz c d = z3 at *
  clear ha hb hc hd
  obtain ⟨c0, c1, c2, c3, c4, c5, -⟩ := A0.out.six
  unfold ov fcode fv wd at *
  have hmf : ∀ (fn : Fn) (first cap : Array Value) (w : World), (Instr.makeFunc fn first cap).run Tryz.prog w = .ok (.func fn first cap) w := fun _ _ _ _ => rfl
  cases z1
  · go_enter Tryz.func161, Tryz.ntmps161
    go_wp2_with (first | (go_at_call_of 172 (Value.int IntKind.u64 (a : Int)); refine (p1.out _ (Below.refl _ _)).mono ?_; rintro e w1 ⟨rfl, b1⟩; have k1 := b1; obtain ⟨s00, s01, s02, s03, s04, s05, -⟩ := (A0.out.later k1).six; obtain ⟨t00, t01, t02, t03, t04, t05⟩ := (Z0.out.later k1).three) | (go_at_call 175; refine (q5.out _ _).mono ?_; rintro e w2 ⟨rfl, b2⟩; have k2 := k1.trans (b2.mono k1.size); obtain ⟨s10, s11, s12, s13, s14, s15, -⟩ := (A0.out.later k2).six; obtain ⟨t10, t11, t12, t13, t14, t15⟩ := (Z0.out.later k2).three))
    have Z := (Z0.out.later k2).set3 (.bool true) (.int .i64 4) (.int .i64 7)
    obtain ⟨h0, h1, h2, -⟩ := Z.three
    exact bodyPost_ret (v := .agg #[.bool true, .int .i64 4, .int .i64 7]) (by simp [results, Tryz.results161, go_sem, h0, h1, h2]) rfl ⟨rfl, below_set3 (g := (w.heap.size + 1)) (B0.out.trans (k2.mono B0.out.size)) (by omega) _ _ _⟩
  · cases m
    · go_enter Tryz.func161, Tryz.ntmps161
      go_wp2_with (first | (go_at_call_of 172 (Value.int IntKind.u64 (a : Int)); refine (p1.out _ (Below.refl _ _)).mono ?_; rintro e w1 ⟨rfl, b1⟩; have k1 := b1; obtain ⟨s00, s01, s02, s03, s04, s05, -⟩ := (A0.out.later k1).six; obtain ⟨t00, t01, t02, t03, t04, t05⟩ := (Z0.out.later k1).three))
      have Z := (Z0.out.later k1).set3 (.bool false) (.int .i64 0) (.int .i64 0)
      obtain ⟨h0, h1, h2, -⟩ := Z.three
      exact bodyPost_ret (v := .agg #[.bool false, .int .i64 0, .int .i64 0]) (by simp [results, Tryz.results161, go_sem, h0, h1, h2]) rfl ⟨rfl, below_set3 (g := (w.heap.size + 1)) (B0.out.trans (k1.mono B0.out.size)) (by omega) _ _ _⟩
    · cases z2
      · go_enter Tryz.func161, Tryz.ntmps161
        go_wp2_with (first | (go_at_call_of 172 (Value.int IntKind.u64 (a : Int)); refine (p1.out _ (Below.refl _ _)).mono ?_; rintro e w1 ⟨rfl, b1⟩; have k1 := b1; obtain ⟨s00, s01, s02, s03, s04, s05, -⟩ := (A0.out.later k1).six; obtain ⟨t00, t01, t02, t03, t04, t05⟩ := (Z0.out.later k1).three) | (go_at_call_of 172 (Value.int IntKind.u64 (c : Int)); refine (p2.out _ k1).mono ?_; rintro e w2 ⟨rfl, b2⟩; have k2 := k1.trans (b2.mono k1.size); obtain ⟨s10, s11, s12, s13, s14, s15, -⟩ := (A0.out.later k2).six; obtain ⟨t10, t11, t12, t13, t14, t15⟩ := (Z0.out.later k2).three) | (go_at_call 175; refine (q5.out _ _).mono ?_; rintro e w3 ⟨rfl, b3⟩; have k3 := k2.trans (b3.mono k2.size); obtain ⟨s20, s21, s22, s23, s24, s25, -⟩ := (A0.out.later k3).six; obtain ⟨t20, t21, t22, t23, t24, t25⟩ := (Z0.out.later k3).three))
        have Z := (Z0.out.later k3).set3 (.bool true) (.int .i64 4) (.int .i64 8)
        obtain ⟨h0, h1, h2, -⟩ := Z.three
        exact bodyPost_ret (v := .agg #[.bool true, .int .i64 4, .int .i64 8]) (by simp [results, Tryz.results161, go_sem, h0, h1, h2]) rfl ⟨rfl, below_set3 (g := (w.heap.size + 1)) (B0.out.trans (k3.mono B0.out.size)) (by omega) _ _ _⟩
      · cases z3
        · cases z4
          · go_enter Tryz.func161, Tryz.ntmps161
            go_wp2_with (first | (go_at_call_of 172 (Value.int IntKind.u64 (a : Int)); refine (p1.out _ (Below.refl _ _)).mono ?_; rintro e w1 ⟨rfl, b1⟩; have k1 := b1; obtain ⟨s00, s01, s02, s03, s04, s05, -⟩ := (A0.out.later k1).six; obtain ⟨t00, t01, t02, t03, t04, t05⟩ := (Z0.out.later k1).three) | (go_at_call_of 172 (Value.int IntKind.u64 (c : Int)); refine (p2.out _ k1).mono ?_; rintro e w2 ⟨rfl, b2⟩; have k2 := k1.trans (b2.mono k1.size); obtain ⟨s10, s11, s12, s13, s14, s15, -⟩ := (A0.out.later k2).six; obtain ⟨t10, t11, t12, t13, t14, t15⟩ := (Z0.out.later k2).three) | (go_at_call 79; refine (q4.out _).mono ?_; rintro e w3 ⟨rfl, b3⟩; have k3 := k2.trans (b3.mono k2.size); obtain ⟨s20, s21, s22, s23, s24, s25, -⟩ := (A0.out.later k3).six; obtain ⟨t20, t21, t22, t23, t24, t25⟩ := (Z0.out.later k3).three) | (go_at_call 173; refine (q3.out _).mono ?_; rintro e w4 ⟨rfl, b4⟩; have k4 := k3.trans (b4.mono k3.size); obtain ⟨s30, s31, s32, s33, s34, s35, -⟩ := (A0.out.later k4).six; obtain ⟨t30, t31, t32, t33, t34, t35⟩ := (Z0.out.later k4).three) | (go_at_call 175; refine (q5.out _ _).mono ?_; rintro e w5 ⟨rfl, b5⟩; have k5 := k4.trans (b5.mono k4.size); obtain ⟨s40, s41, s42, s43, s44, s45, -⟩ := (A0.out.later k5).six; obtain ⟨t40, t41, t42, t43, t44, t45⟩ := (Z0.out.later k5).three))
            have Z := (Z0.out.later k5).set3 (.bool true) (.int .i64 4) (.int .i64 5)
            obtain ⟨h0, h1, h2, -⟩ := Z.three
            exact bodyPost_ret (v := .agg #[.bool true, .int .i64 4, .int .i64 5]) (by simp [results, Tryz.results161, go_sem, h0, h1, h2]) rfl ⟨rfl, below_set3 (g := (w.heap.size + 1)) (B0.out.trans (k5.mono B0.out.size)) (by omega) _ _ _⟩
          · go_enter Tryz.func161, Tryz.ntmps161
            go_wp2_with (first | (go_at_call_of 172 (Value.int IntKind.u64 (a : Int)); refine (p1.out _ (Below.refl _ _)).mono ?_; rintro e w1 ⟨rfl, b1⟩; have k1 := b1; obtain ⟨s00, s01, s02, s03, s04, s05, -⟩ := (A0.out.later k1).six; obtain ⟨t00, t01, t02, t03, t04, t05⟩ := (Z0.out.later k1).three) | (go_at_call_of 172 (Value.int IntKind.u64 (c : Int)); refine (p2.out _ k1).mono ?_; rintro e w2 ⟨rfl, b2⟩; have k2 := k1.trans (b2.mono k1.size); obtain ⟨s10, s11, s12, s13, s14, s15, -⟩ := (A0.out.later k2).six; obtain ⟨t10, t11, t12, t13, t14, t15⟩ := (Z0.out.later k2).three) | (go_at_call 79; refine (q4.out _).mono ?_; rintro e w3 ⟨rfl, b3⟩; have k3 := k2.trans (b3.mono k2.size); obtain ⟨s20, s21, s22, s23, s24, s25, -⟩ := (A0.out.later k3).six; obtain ⟨t20, t21, t22, t23, t24, t25⟩ := (Z0.out.later k3).three) | (go_at_call 173; refine (q3.out _).mono ?_; rintro e w4 ⟨rfl, b4⟩; have k4 := k3.trans (b4.mono k3.size); obtain ⟨s30, s31, s32, s33, s34, s35, -⟩ := (A0.out.later k4).six; obtain ⟨t30, t31, t32, t33, t34, t35⟩ := (Z0.out.later k4).three))
            have Z := (Z0.out.later k4).set3 (.bool false) (.int .i64 0) (.int .i64 0)
            obtain ⟨h0, h1, h2, -⟩ := Z.three
            exact bodyPost_ret (v := .agg #[.bool false, .int .i64 0, .int .i64 0]) (by simp [results, Tryz.results161, go_sem, h0, h1, h2]) rfl ⟨rfl, below_set3 (g := (w.heap.size + 1)) (B0.out.trans (k4.mono B0.out.size)) (by omega) _ _ _⟩
        · go_enter Tryz.func161, Tryz.ntmps161
          go_wp2_with (first | (go_at_call_of 172 (Value.int IntKind.u64 (a : Int)); refine (p1.out _ (Below.refl _ _)).mono ?_; rintro e w1 ⟨rfl, b1⟩; have k1 := b1; obtain ⟨s00, s01, s02, s03, s04, s05, -⟩ := (A0.out.later k1).six; obtain ⟨t00, t01, t02, t03, t04, t05⟩ := (Z0.out.later k1).three) | (go_at_call_of 172 (Value.int IntKind.u64 (c : Int)); refine (p2.out _ k1).mono ?_; rintro e w2 ⟨rfl, b2⟩; have k2 := k1.trans (b2.mono k1.size); obtain ⟨s10, s11, s12, s13, s14, s15, -⟩ := (A0.out.later k2).six; obtain ⟨t10, t11, t12, t13, t14, t15⟩ := (Z0.out.later k2).three) | (go_at_call 79; refine (q4.out _).mono ?_; rintro e w3 ⟨rfl, b3⟩; have k3 := k2.trans (b3.mono k2.size); obtain ⟨s20, s21, s22, s23, s24, s25, -⟩ := (A0.out.later k3).six; obtain ⟨t20, t21, t22, t23, t24, t25⟩ := (Z0.out.later k3).three) | (go_at_call 175; refine (q5.out _ _).mono ?_; rintro e w4 ⟨rfl, b4⟩; have k4 := k3.trans (b4.mono k3.size); obtain ⟨s30, s31, s32, s33, s34, s35, -⟩ := (A0.out.later k4).six; obtain ⟨t30, t31, t32, t33, t34, t35⟩ := (Z0.out.later k4).three))
          have Z := (Z0.out.later k4).set3 (.bool true) (.int .i64 4) (.int .i64 8)
          obtain ⟨h0, h1, h2, -⟩ := Z.three
          exact bodyPost_ret (v := .agg #[.bool true, .int .i64 4, .int .i64 8]) (by simp [results, Tryz.results161, go_sem, h0, h1, h2]) rfl ⟨rfl, below_set3 (g := (w.heap.size + 1)) (B0.out.trans (k4.mono B0.out.size)) (by omega) _ _ _⟩
end Go.Proofs.YthhijfphfcmniaaGreat
namespace Go.Proofs.YthhijfphfcmniaaGreat
open Go Go.RowKit
theorem gx_lt (l : List Int) (s : Int) (h : isB l) : gx l s < 18446744073709551616 := by
  have := gv_lt l s h
  unfold gx; omega
theorem gy_lt (l : List Int) (s : Int) : gy l s < 18446744073709551616 := Nat.mod_lt _ (by decide)
theorem isB_drop {l : List Int} (h : isB l) (k : Nat) : isB (l.drop k) := fun z hz => h z (List.mem_of_mem_drop hz)
theorem bodyA_lt (l : List Int) (f : Int) (m : Bool) (h : isB l) : (bodyA l f m).1 < 18446744073709551616 ∧ (bodyA l f m).2.1 < 18446744073709551616 ∧ (bodyA l f m).2.2.1 < 18446744073709551616 ∧ (bodyA l f m).2.2.2 < 18446744073709551616 := by
  unfold bodyA
  refine ⟨gx_lt _ _ h, gy_lt _ _, ?_, ?_⟩
  · cases m
    · simp
    · exact gx_lt _ _ (isB_drop h _)
  · cases m
    · simp
    · exact gy_lt _ _
theorem headR_ok {l : List Int} {f : Int} {m : Bool} (h : headR l = (0, f, m)) : ∃ b0 b1 b2 b3 r, ∃ j : Nat, l = b0 :: b1 :: b2 :: b3 :: r ∧ b3 ≤ (r.length : Int) ∧ b0 * 256 + b1 = 32768 ∧ fidx (b2 / 2) = some j ∧ f = (j : Int) ∧ m = decide (b2 % 2 = 1) ∧ (m = true → fmask f = true) ∧ b3 = foll f m := by
  by_cases h4 : l.length < 4
  · rw [headR_short h4] at h; simp at h
  · obtain ⟨b0, b1, b2, b3, r, rfl⟩ := four_of h4
    unfold headR at h
    dsimp only at h
    by_cases h1 : (r.length : Int) < b3
    · rw [if_pos h1] at h; simp at h
    · rw [if_neg h1] at h
      cases hf : fidx (b2 / 2) with
      | none => rw [hf] at h; simp at h
      | some j =>
        rw [hf] at h
        dsimp only at h
        by_cases h2 : b0 * 256 + b1 = 32768
        · rw [if_pos h2] at h
          by_cases h3 : (decide (b2 % 2 = 1) && !(fmask (j : Int))) = true
          · rw [if_pos h3] at h; simp at h
          · rw [if_neg h3] at h
            by_cases h5 : b3 = foll (j : Int) (decide (b2 % 2 = 1))
            · rw [if_pos h5] at h
              have e1 : f = (j : Int) := by have := congrArg (fun x => x.2.1) h; exact this.symm
              have e2 : m = decide (b2 % 2 = 1) := by have := congrArg (fun x => x.2.2) h; exact this.symm
              refine ⟨b0, b1, b2, b3, r, j, rfl, by omega, h2, hf, e1, e2, fun hm => ?_, by rw [e1, e2]; exact h5⟩
              rw [e1]
              rw [e2] at hm
              rw [hm] at h3
              cases hk : fmask (j : Int)
              · rw [hk] at h3; simp at h3
              · rfl
            · rw [if_neg h5] at h; simp at h
        · rw [if_neg h2] at h; simp at h
theorem headR_len {l : List Int} {f : Int} {m : Bool} (h : headR l = (0, f, m)) : 4 ≤ l.length ∧ fsize f ≤ (l.drop 4).length := by
  obtain ⟨b0, b1, b2, b3, r, j, rfl, h1, -, -, -, -, -, h2⟩ := headR_ok h
  refine ⟨by simp, ?_⟩
  have : (fsize f : Int) ≤ foll f m := by unfold foll; cases m <;> dsimp only <;> omega
  simp
  omega
def decV (l : List Int) : Value :=
  if (headR l).1 = 0 then
    (if chk (headR l).2.1 (headR l).2.2 (bodyA (l.drop 4) (headR l).2.1 (headR l).2.2).1 (bodyA (l.drop 4) (headR l).2.1 (headR l).2.2).2.1 (bodyA (l.drop 4) (headR l).2.1 (headR l).2.2).2.2.1 (bodyA (l.drop 4) (headR l).2.1 (headR l).2.2).2.2.2 = 0 then
      .tuple #[ov (headR l).2.1 (headR l).2.2 (bodyA (l.drop 4) (headR l).2.1 (headR l).2.2).1 (bodyA (l.drop 4) (headR l).2.1 (headR l).2.2).2.1 (bodyA (l.drop 4) (headR l).2.1 (headR l).2.2).2.2.1 (bodyA (l.drop 4) (headR l).2.1 (headR l).2.2).2.2.2, .int .i64 (4 + foll (headR l).2.1 (headR l).2.2), fv false 0 0]
    else .tuple #[ov 0 false 0 0 0 0, .int .i64 0, fv true 4 (chk (headR l).2.1 (headR l).2.2 (bodyA (l.drop 4) (headR l).2.1 (headR l).2.2).1 (bodyA (l.drop 4) (headR l).2.1 (headR l).2.2).2.1 (bodyA (l.drop 4) (headR l).2.1 (headR l).2.2).2.2.1 (bodyA (l.drop 4) (headR l).2.1 (headR l).2.2).2.2.2)])
  else .tuple #[ov 0 false 0 0 0 0, .int .i64 0, fv true 4 (headR l).1]
theorem headR_zero (l : List Int) (h : ¬ (headR l).1 = 0) : (headR l).2 = (0, false) := by
  by_cases h4 : l.length < 4
  · rw [headR_short h4]
  · obtain ⟨b0, b1, b2, b3, r, rfl⟩ := four_of h4
    unfold headR at h ⊢
    dsimp only at h ⊢
    by_cases h1 : (r.length : Int) < b3
    · rw [if_pos h1]
    · rw [if_neg h1] at h ⊢
      cases hf : fidx (b2 / 2) with
      | none => rfl
      | some j =>
        rw [hf] at h
        dsimp only at h ⊢
        by_cases h2 : b0 * 256 + b1 = 32768
        · rw [if_pos h2] at h ⊢
          by_cases h3 : (decide (b2 % 2 = 1) && !(fmask (j : Int))) = true
          · rw [if_pos h3]
          · rw [if_neg h3] at h ⊢
            by_cases h5 : b3 = foll (j : Int) (decide (b2 % 2 = 1))
            · rw [if_pos h5] at h; simp at h
            · rw [if_neg h5]
        · rw [if_neg h2]
end Go.Proofs.YthhijfphfcmniaaGreat
