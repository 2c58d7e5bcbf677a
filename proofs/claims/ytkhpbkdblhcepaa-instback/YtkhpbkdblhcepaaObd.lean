import Derived.Test.YtkhpbkdblhcepaaOad
import Derived.Deep.RegionHeld3
import Derived.Deep.RegionWith
import Derived.Deep.MidRow
import Derived.Deep.Cut
namespace Go.Proofs.Ytkhpbkdblhcepaa
open Go Go.RowKit
set_option linter.unusedVariables false
set_option linter.unusedSimpArgs false

set_option maxRecDepth 100000 in
set_option maxHeartbeats 2000000 in
theorem check_any (f : Int) (m : Bool) (a b c d : Nat) (w : World) (ha : a < 18446744073709551616) (hb : b < 18446744073709551616) (hc : c < 18446744073709551616) (hd : d < 18446744073709551616) :
    Calls Try.prog 141 #[ov f m a b c d] w fun e w' => e = .returned (fcode (chk f m a b c d)) ∧ Below w.heap.size w w' := by
  have A0 := hide_ ((AB.at0 w 63 [.int .i64 f, .bool m, .int .u64 (a : Int), .int .u64 (b : Int), .int .u64 (c : Int), .int .u64 (d : Int)]).alloc (.cells #[.bool false, .int .i64 0, .int .i64 0] 34))
  have Z0 := hide_ (AB.at1 w (.cells #[.int .i64 f, .bool m, .int .u64 (a : Int), .int .u64 (b : Int), .int .u64 (c : Int), .int .u64 (d : Int)] 63) 34 [.bool false, .int .i64 0, .int .i64 0])
  have B0 := hide_ (below2 w (.cells #[.int .i64 f, .bool m, .int .u64 (a : Int), .int .u64 (b : Int), .int .u64 (c : Int), .int .u64 (d : Int)] 63) (.cells #[.bool false, .int .i64 0, .int .i64 0] 34))
  have p1 : Hid (∀ W, Below ((w.alloc (.cells #[.int .i64 f, .bool m, .int .u64 (a : Int), .int .u64 (b : Int), .int .u64 (c : Int), .int .u64 (d : Int)] 63)).alloc (.cells #[.bool false, .int .i64 0, .int .i64 0] 34)).heap.size ((w.alloc (.cells #[.int .i64 f, .bool m, .int .u64 (a : Int), .int .u64 (b : Int), .int .u64 (c : Int), .int .u64 (d : Int)] 63)).alloc (.cells #[.bool false, .int .i64 0, .int .i64 0] 34)) W → Calls Try.prog 160 #[wd a b, .pointer (some ⟨w.heap.size, 0, none⟩)] W fun e W' => e = .returned (.bool (!(wi a b (LH f) (LL f)))) ∧ Below W.heap.size W W') := hide_ (fun W h => chk1_fn f w.heap.size a b W ha hb ((A0.out.later h).cell (j := 0) rfl).1)
  have p2 : Hid (∀ W, Below ((w.alloc (.cells #[.int .i64 f, .bool m, .int .u64 (a : Int), .int .u64 (b : Int), .int .u64 (c : Int), .int .u64 (d : Int)] 63)).alloc (.cells #[.bool false, .int .i64 0, .int .i64 0] 34)).heap.size ((w.alloc (.cells #[.int .i64 f, .bool m, .int .u64 (a : Int), .int .u64 (b : Int), .int .u64 (c : Int), .int .u64 (d : Int)] 63)).alloc (.cells #[.bool false, .int .i64 0, .int .i64 0] 34)) W → Calls Try.prog 160 #[wd c d, .pointer (some ⟨w.heap.size, 0, none⟩)] W fun e W' => e = .returned (.bool (!(wi c d (LH f) (LL f)))) ∧ Below W.heap.size W W') := hide_ (fun W h => chk1_fn f w.heap.size c d W hc hd ((A0.out.later h).cell (j := 0) rfl).1)
  have q3 := hide_ (fun w => owithin_any a b c d w ha hb hc hd)
  have q4 : Hid (∀ w, Calls Try.prog 99 #[wd c d] w fun e w' => e = .returned (.bool (zz c d)) ∧ Below w.heap.size w w') := hide_ (fun w => zero_any c d w)
  have q5 := hide_ (fun k w => refuse_any k w)
  unfold chk
  generalize wi a b (LH f) (LL f) = z1 at *
  generalize wi c d (LH f) (LL f) = z2 at *
  generalize wi a b c d = z4 at *
  generalize zz c d = z3 at *
  clear ha hb hc hd
  obtain ⟨c0, c1, c2, c3, c4, c5, -⟩ := A0.out.six
  unfold ov fcode fv wd at *
  have hmf : ∀ (fn : Fn) (first cap : Array Value) (w : World), (Instr.makeFunc fn first cap).run Try.prog w = .ok (.func fn first cap) w := fun _ _ _ _ => rfl
  cases z1
  · go_enter Try.func141, Try.ntmps141
    go_wp2_with (first | (go_at_call_of 160 (Value.int IntKind.u64 (a : Int)); refine (p1.out _ (Below.refl _ _)).mono ?_; rintro e w1 ⟨rfl, b1⟩; have k1 := b1; obtain ⟨s00, s01, s02, s03, s04, s05, -⟩ := (A0.out.later k1).six; obtain ⟨t00, t01, t02, t03, t04, t05⟩ := (Z0.out.later k1).three) | (go_at_call 163; refine (q5.out _ _).mono ?_; rintro e w2 ⟨rfl, b2⟩; have k2 := k1.trans (b2.mono k1.size); obtain ⟨s10, s11, s12, s13, s14, s15, -⟩ := (A0.out.later k2).six; obtain ⟨t10, t11, t12, t13, t14, t15⟩ := (Z0.out.later k2).three))
    have Z := (Z0.out.later k2).set3 (.bool true) (.int .i64 4) (.int .i64 7)
    obtain ⟨h0, h1, h2, -⟩ := Z.three
    exact bodyPost_ret (v := .agg #[.bool true, .int .i64 4, .int .i64 7]) (by simp [results, Try.results141, go_sem, h0, h1, h2]) rfl ⟨rfl, below_set3 (g := (w.heap.size + 1)) (B0.out.trans (k2.mono B0.out.size)) (by omega) _ _ _⟩
  · cases m
    · go_enter Try.func141, Try.ntmps141
      go_wp2_with (first | (go_at_call_of 160 (Value.int IntKind.u64 (a : Int)); refine (p1.out _ (Below.refl _ _)).mono ?_; rintro e w1 ⟨rfl, b1⟩; have k1 := b1; obtain ⟨s00, s01, s02, s03, s04, s05, -⟩ := (A0.out.later k1).six; obtain ⟨t00, t01, t02, t03, t04, t05⟩ := (Z0.out.later k1).three))
      have Z := (Z0.out.later k1).set3 (.bool false) (.int .i64 0) (.int .i64 0)
      obtain ⟨h0, h1, h2, -⟩ := Z.three
      exact bodyPost_ret (v := .agg #[.bool false, .int .i64 0, .int .i64 0]) (by simp [results, Try.results141, go_sem, h0, h1, h2]) rfl ⟨rfl, below_set3 (g := (w.heap.size + 1)) (B0.out.trans (k1.mono B0.out.size)) (by omega) _ _ _⟩
    · cases z2
      · go_enter Try.func141, Try.ntmps141
        go_wp2_with (first | (go_at_call_of 160 (Value.int IntKind.u64 (a : Int)); refine (p1.out _ (Below.refl _ _)).mono ?_; rintro e w1 ⟨rfl, b1⟩; have k1 := b1; obtain ⟨s00, s01, s02, s03, s04, s05, -⟩ := (A0.out.later k1).six; obtain ⟨t00, t01, t02, t03, t04, t05⟩ := (Z0.out.later k1).three) | (go_at_call_of 160 (Value.int IntKind.u64 (c : Int)); refine (p2.out _ k1).mono ?_; rintro e w2 ⟨rfl, b2⟩; have k2 := k1.trans (b2.mono k1.size); obtain ⟨s10, s11, s12, s13, s14, s15, -⟩ := (A0.out.later k2).six; obtain ⟨t10, t11, t12, t13, t14, t15⟩ := (Z0.out.later k2).three) | (go_at_call 163; refine (q5.out _ _).mono ?_; rintro e w3 ⟨rfl, b3⟩; have k3 := k2.trans (b3.mono k2.size); obtain ⟨s20, s21, s22, s23, s24, s25, -⟩ := (A0.out.later k3).six; obtain ⟨t20, t21, t22, t23, t24, t25⟩ := (Z0.out.later k3).three))
        have Z := (Z0.out.later k3).set3 (.bool true) (.int .i64 4) (.int .i64 8)
        obtain ⟨h0, h1, h2, -⟩ := Z.three
        exact bodyPost_ret (v := .agg #[.bool true, .int .i64 4, .int .i64 8]) (by simp [results, Try.results141, go_sem, h0, h1, h2]) rfl ⟨rfl, below_set3 (g := (w.heap.size + 1)) (B0.out.trans (k3.mono B0.out.size)) (by omega) _ _ _⟩
      · cases z3
        · cases z4
          · go_enter Try.func141, Try.ntmps141
            go_wp2_with (first | (go_at_call_of 160 (Value.int IntKind.u64 (a : Int)); refine (p1.out _ (Below.refl _ _)).mono ?_; rintro e w1 ⟨rfl, b1⟩; have k1 := b1; obtain ⟨s00, s01, s02, s03, s04, s05, -⟩ := (A0.out.later k1).six; obtain ⟨t00, t01, t02, t03, t04, t05⟩ := (Z0.out.later k1).three) | (go_at_call_of 160 (Value.int IntKind.u64 (c : Int)); refine (p2.out _ k1).mono ?_; rintro e w2 ⟨rfl, b2⟩; have k2 := k1.trans (b2.mono k1.size); obtain ⟨s10, s11, s12, s13, s14, s15, -⟩ := (A0.out.later k2).six; obtain ⟨t10, t11, t12, t13, t14, t15⟩ := (Z0.out.later k2).three) | (go_at_call 99; refine (q4.out _).mono ?_; rintro e w3 ⟨rfl, b3⟩; have k3 := k2.trans (b3.mono k2.size); obtain ⟨s20, s21, s22, s23, s24, s25, -⟩ := (A0.out.later k3).six; obtain ⟨t20, t21, t22, t23, t24, t25⟩ := (Z0.out.later k3).three) | (go_at_call 161; refine (q3.out _).mono ?_; rintro e w4 ⟨rfl, b4⟩; have k4 := k3.trans (b4.mono k3.size); obtain ⟨s30, s31, s32, s33, s34, s35, -⟩ := (A0.out.later k4).six; obtain ⟨t30, t31, t32, t33, t34, t35⟩ := (Z0.out.later k4).three) | (go_at_call 163; refine (q5.out _ _).mono ?_; rintro e w5 ⟨rfl, b5⟩; have k5 := k4.trans (b5.mono k4.size); obtain ⟨s40, s41, s42, s43, s44, s45, -⟩ := (A0.out.later k5).six; obtain ⟨t40, t41, t42, t43, t44, t45⟩ := (Z0.out.later k5).three))
            have Z := (Z0.out.later k5).set3 (.bool true) (.int .i64 4) (.int .i64 5)
            obtain ⟨h0, h1, h2, -⟩ := Z.three
            exact bodyPost_ret (v := .agg #[.bool true, .int .i64 4, .int .i64 5]) (by simp [results, Try.results141, go_sem, h0, h1, h2]) rfl ⟨rfl, below_set3 (g := (w.heap.size + 1)) (B0.out.trans (k5.mono B0.out.size)) (by omega) _ _ _⟩
          · go_enter Try.func141, Try.ntmps141
            go_wp2_with (first | (go_at_call_of 160 (Value.int IntKind.u64 (a : Int)); refine (p1.out _ (Below.refl _ _)).mono ?_; rintro e w1 ⟨rfl, b1⟩; have k1 := b1; obtain ⟨s00, s01, s02, s03, s04, s05, -⟩ := (A0.out.later k1).six; obtain ⟨t00, t01, t02, t03, t04, t05⟩ := (Z0.out.later k1).three) | (go_at_call_of 160 (Value.int IntKind.u64 (c : Int)); refine (p2.out _ k1).mono ?_; rintro e w2 ⟨rfl, b2⟩; have k2 := k1.trans (b2.mono k1.size); obtain ⟨s10, s11, s12, s13, s14, s15, -⟩ := (A0.out.later k2).six; obtain ⟨t10, t11, t12, t13, t14, t15⟩ := (Z0.out.later k2).three) | (go_at_call 99; refine (q4.out _).mono ?_; rintro e w3 ⟨rfl, b3⟩; have k3 := k2.trans (b3.mono k2.size); obtain ⟨s20, s21, s22, s23, s24, s25, -⟩ := (A0.out.later k3).six; obtain ⟨t20, t21, t22, t23, t24, t25⟩ := (Z0.out.later k3).three) | (go_at_call 161; refine (q3.out _).mono ?_; rintro e w4 ⟨rfl, b4⟩; have k4 := k3.trans (b4.mono k3.size); obtain ⟨s30, s31, s32, s33, s34, s35, -⟩ := (A0.out.later k4).six; obtain ⟨t30, t31, t32, t33, t34, t35⟩ := (Z0.out.later k4).three))
            have Z := (Z0.out.later k4).set3 (.bool false) (.int .i64 0) (.int .i64 0)
            obtain ⟨h0, h1, h2, -⟩ := Z.three
            exact bodyPost_ret (v := .agg #[.bool false, .int .i64 0, .int .i64 0]) (by simp [results, Try.results141, go_sem, h0, h1, h2]) rfl ⟨rfl, below_set3 (g := (w.heap.size + 1)) (B0.out.trans (k4.mono B0.out.size)) (by omega) _ _ _⟩
        · go_enter Try.func141, Try.ntmps141
          go_wp2_with (first | (go_at_call_of 160 (Value.int IntKind.u64 (a : Int)); refine (p1.out _ (Below.refl _ _)).mono ?_; rintro e w1 ⟨rfl, b1⟩; have k1 := b1; obtain ⟨s00, s01, s02, s03, s04, s05, -⟩ := (A0.out.later k1).six; obtain ⟨t00, t01, t02, t03, t04, t05⟩ := (Z0.out.later k1).three) | (go_at_call_of 160 (Value.int IntKind.u64 (c : Int)); refine (p2.out _ k1).mono ?_; rintro e w2 ⟨rfl, b2⟩; have k2 := k1.trans (b2.mono k1.size); obtain ⟨s10, s11, s12, s13, s14, s15, -⟩ := (A0.out.later k2).six; obtain ⟨t10, t11, t12, t13, t14, t15⟩ := (Z0.out.later k2).three) | (go_at_call 99; refine (q4.out _).mono ?_; rintro e w3 ⟨rfl, b3⟩; have k3 := k2.trans (b3.mono k2.size); obtain ⟨s20, s21, s22, s23, s24, s25, -⟩ := (A0.out.later k3).six; obtain ⟨t20, t21, t22, t23, t24, t25⟩ := (Z0.out.later k3).three) | (go_at_call 163; refine (q5.out _ _).mono ?_; rintro e w4 ⟨rfl, b4⟩; have k4 := k3.trans (b4.mono k3.size); obtain ⟨s30, s31, s32, s33, s34, s35, -⟩ := (A0.out.later k4).six; obtain ⟨t30, t31, t32, t33, t34, t35⟩ := (Z0.out.later k4).three))
          have Z := (Z0.out.later k4).set3 (.bool true) (.int .i64 4) (.int .i64 8)
          obtain ⟨h0, h1, h2, -⟩ := Z.three
          exact bodyPost_ret (v := .agg #[.bool true, .int .i64 4, .int .i64 8]) (by simp [results, Try.results141, go_sem, h0, h1, h2]) rfl ⟨rfl, below_set3 (g := (w.heap.size + 1)) (B0.out.trans (k4.mono B0.out.size)) (by omega) _ _ _⟩


end Go.Proofs.Ytkhpbkdblhcepaa

